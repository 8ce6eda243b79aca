"""Holds a part of the scene still, picture by picture."""

from heldstill.movement import Finder, sizes_are_right

MOST_SLOW = 65535


def refusal():
    """The answer of a refused call: its number alone."""
    return [-22]


def one_nearer(number, aim):
    """The number, one nearer to the aim if it is not there yet."""
    if number < aim:
        return number + 1
    if number > aim:
        return number - 1
    return number


def kept_within(number, most):
    """The number, or the end of 0 to `most` that it has passed."""
    return max(0, min(number, most))


class Hold:
    """One object of the calls: what was begun, and what has come of it so far.

    Each call answers a list: its number, then what else is answered.
    """

    def __init__(self):
        # No picture has these sizes, so a frame ahead of the first begin is refused.
        self.width = None
        self.height = None
        self.margin = None
        self.slow = 0
        self.finder = None
        self.forget_pictures()

    def forget_pictures(self):
        """Puts all back to where no picture has come and nothing has moved."""
        self.before = None
        self.pictures = 0
        self.moved_x = 0
        self.moved_y = 0
        self.left = self.margin
        self.top = self.margin

    def begin(self, width, height, reach, margin, slow):
        """Begins anew, unless the sizes, the margin or slow are refused."""
        if not sizes_are_right(width, height, reach):
            return refusal()
        if 2 * margin >= width or 2 * margin >= height or slow > MOST_SLOW:
            return refusal()
        self.width = width
        self.height = height
        self.margin = margin
        self.slow = slow
        self.finder = Finder(width, height, reach)
        self.forget_pictures()
        return [0]

    def frame(self, width, height, margin, picture):
        """Takes the next picture, and answers where what's shown lies, and its greys."""
        if width != self.width or height != self.height or margin != self.margin:
            return refusal()
        told = 0
        if self.before is not None:
            told = self.follow(picture)
        self.before = picture
        self.pictures += 1
        return [told, self.left, self.top] + self.shown(picture)

    def where(self):
        """How far the scene has moved in all, and how many pictures have come."""
        return [0, self.moved_x, self.moved_y, self.pictures]

    def follow(self, picture):
        """Lays what's shown where the scene went, and tells if it could not be held."""
        shift = self.finder.found_shift(self.before, picture)
        self.moved_x += shift[0]
        self.moved_y += shift[1]
        held = (self.left + shift[0], self.top + shift[1])
        nearer = held
        if self.gives_way():
            nearer = (one_nearer(held[0], self.margin), one_nearer(held[1], self.margin))
        most = 2 * self.margin
        kept = (kept_within(nearer[0], most), kept_within(nearer[1], most))
        self.left = kept[0]
        self.top = kept[1]
        told = 0
        if nearer != held:
            told += 1
        if kept != nearer:
            told += 2
        return told

    def gives_way(self):
        """Whether what's shown goes nearer to the middle at the picture that comes now."""
        # The pictures that came before this one are as many as it lies behind the first.
        return self.slow != 0 and self.pictures % self.slow == 0

    def shown(self, picture):
        """The greys of the part of the picture that's shown, row by row."""
        columns = self.width - 2 * self.margin
        rows = self.height - 2 * self.margin
        greys = []
        for y in range(self.top, self.top + rows):
            start = y * self.width + self.left
            greys.extend(picture[start:start + columns])
        return greys

"""How far a picture has moved against the picture before it."""

MOST_REACH = 8
MOST_SIZE = 256
LIGHTEST = 255


def sizes_are_right(width, height, reach):
    """Whether pictures of these sizes can be compared by all shifts up to the reach."""
    if reach > MOST_REACH:
        return False
    least = 2 * reach + 1
    return least <= width <= MOST_SIZE and least <= height <= MOST_SIZE


def shift_rank(shift):
    """What decides between shifts that cost the same: the lower rank goes first."""
    dx = shift[0]
    dy = shift[1]
    return (dx * dx + dy * dy, dy, dx)


def shifts_by_rank(reach):
    """All shifts up to the reach, as (dx, dy), the lowest rank first."""
    shifts = []
    for dy in range(-reach, reach + 1):
        for dx in range(-reach, reach + 1):
            shifts.append((dx, dy))
    return sorted(shifts, key=shift_rank)


def row_difference(greys, others):
    """How far the greys of two rows of places are apart, added."""
    return sum([abs(grey - other) for grey, other in zip(greys, others)])


class Finder:
    """Finds the shift between two pictures of one width and height, by one reach."""

    def __init__(self, width, height, reach):
        self.width = width
        self.height = height
        self.reach = reach
        self.shifts = shifts_by_rank(reach)

    def shift_cost(self, before, after, shift, enough):
        """What the shift costs, added only until it is known to be `enough` or more."""
        aside = shift[1] * self.width + shift[0]
        places = self.width - 2 * self.reach
        cost = 0
        for y in range(self.reach, self.height - self.reach):
            start = y * self.width + self.reach
            there = start + aside
            cost += row_difference(before[start:start + places], after[there:there + places])
            if cost >= enough:
                return cost
        return cost

    def found_shift(self, before, after):
        """The shift (dx, dy) that costs least; of several the one of the lowest rank."""
        # More than any shift can cost, so that the first one tried is always taken.
        least = LIGHTEST * len(before) + 1
        found = (0, 0)
        for shift in self.shifts:
            # A later shift of the same cost has a higher rank, so it must cost less to be taken.
            cost = self.shift_cost(before, after, shift, least)
            if cost < least:
                least = cost
                found = shift
            if least == 0:
                break
        return found

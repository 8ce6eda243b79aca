"""What the tests share: calls written as lists, scenes to take pictures of, and a slow second reckoning."""

from heldstill.shaking import answers

TOP = 4294967295


def begin(w, h, r, m, slow=0):
    return [0, w, h, r, m, slow]


def frame(w, h, m, b):
    return [1, w, h, m, len(b)] + list(b)


def where():
    return [2]


def joined(calls):
    return [number for call in calls for number in call]


def parted(given):
    """The answers, each a list without its count ahead."""
    parts = []
    start = 0
    while start < len(given):
        count = given[start]
        part = given[start + 1:start + 1 + count]
        if count < 1 or len(part) != count:
            raise AssertionError(f"a count of {count} does not fit at {start}")
        parts.append(part)
        start += 1 + count
    return parts


def ask(*calls):
    """The answer to each call of one new object."""
    return parted(answers(joined(calls)))


def grey_at(x, y):
    """A great picture without end, in which no two windows nearby are alike."""
    number = (x * 73856093 ^ y * 19349663) & 0xFFFFFFFF
    number = (number ^ number >> 15) * 0x2C1B3C6D & 0xFFFFFFFF
    number = (number ^ number >> 12) * 0x297A2D39 & 0xFFFFFFFF
    return (number ^ number >> 15) & 0xFF


def window(w, h, left=0, top=0):
    """The picture of the great picture whose first place lies at (left, top)."""
    return [grey_at(left + x, top + y) for y in range(h) for x in range(w)]


def path_calls(w, h, m, path):
    """A frame for each place of the window."""
    return [frame(w, h, m, window(w, h, left, top)) for left, top in path]


def part(picture, w, h, m, x, y):
    return [picture[row * w + column] for row in range(y, y + h - 2 * m) for column in range(x, x + w - 2 * m)]


def cost(w, h, r, a, b, dx, dy):
    total = 0
    for y in range(r, h - r):
        for x in range(r, w - r):
            total += abs(a[y * w + x] - b[(y + dy) * w + x + dx])
    return total


def find(w, h, r, a, b):
    """(dx, dy) that costs least, reckoned by writing out every shift."""
    ways = [
        (cost(w, h, r, a, b, dx, dy), dx * dx + dy * dy, dy, dx)
        for dx in range(-r, r + 1)
        for dy in range(-r, r + 1)
    ]
    least = min(ways)
    return least[3], least[2]


def begin_is_right(w, h, r, m, slow):
    sizes = r <= 8 and 2 * r + 1 <= w <= 256 and 2 * r + 1 <= h <= 256
    return sizes and 2 * m < w and 2 * m < h and slow <= 65535


def second_reckoning(calls):
    """The answer to each call (a list of calls, each a list), straight from the document's words."""
    parts = []
    now = {}
    for call in calls:
        if call[0] == 0:
            if not begin_is_right(*call[1:]):
                parts.append([-22])
                continue
            w, h, r, m, slow = call[1:]
            now = {"sizes": (w, h, m), "r": r, "slow": slow, "pictures": [], "moved": [0, 0], "at": [m, m]}
            parts.append([0])
        elif call[0] == 1:
            parts.append(reckon_frame(now, tuple(call[1:4]), call[5:]))
        else:
            parts.append([0] + now["moved"] + [len(now["pictures"])])
    return parts


def reckon_frame(now, sizes, b):
    if sizes != now["sizes"]:
        return [-22]
    w, h, m = sizes
    told = set()
    if now["pictures"]:
        shift = find(w, h, now["r"], now["pictures"][-1], b)
        turn = now["slow"] and len(now["pictures"]) in range(now["slow"], 401, now["slow"])
        for axis in (0, 1):
            number = now["at"][axis] + shift[axis]
            if turn and number != m:
                number += 1 if number < m else -1
                told.add(1)
            if number < 0:
                number = 0
                told.add(2)
            if number > 2 * m:
                number = 2 * m
                told.add(2)
            now["at"][axis] = number
            now["moved"][axis] += shift[axis]
    now["pictures"].append(b)
    return [sum(told)] + now["at"] + part(b, w, h, m, *now["at"])

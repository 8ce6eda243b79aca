"""What holds of the whole program, a to d, and its corners."""

import random
import unittest

from tests.helper import ask, begin, cost, frame, part, path_calls, where, window


def walk(chance, steps, reach, most):
    """A path of the window: each step no further than the reach, and no further than `most` from the start."""
    x = 0
    y = 0
    path = [(0, 0)]
    for step in range(steps):
        x = max(-most, min(most, x + chance.randint(-reach, reach)))
        y = max(-most, min(most, y + chance.randint(-reach, reach)))
        path.append((x, y))
    return path


def told_apart(w, h, r, path):
    """Whether no two windows, one behind the other, can be taken for another shift."""
    for before, after in zip(path, path[1:]):
        a = window(w, h, *before)
        b = window(w, h, *after)
        shifts = [(dx, dy) for dx in range(-r, r + 1) for dy in range(-r, r + 1)]
        if [cost(w, h, r, a, b, dx, dy) for dx, dy in shifts].count(0) != 1:
            return False
    return True


class StillTest(unittest.TestCase):
    def held(self, w, h, r, m, path):
        calls = [begin(w, h, r, m)]
        for call in path_calls(w, h, m, path):
            calls += [call, where()]
        parts = ask(*calls)[1:]
        shown = part(window(w, h), w, h, m, m, m)
        for turn, (x, y) in enumerate(path):
            self.assertEqual(parts[2 * turn], [0, m - x, m - y] + shown)
            self.assertEqual(parts[2 * turn + 1], [0, -x, -y, turn + 1])

    def test_windows_of_one_great_picture(self):
        chance = random.Random(41)
        for w, h, r, m in ((12, 11, 2, 3), (13, 13, 1, 6), (19, 18, 8, 4), (40, 9, 3, 4), (256, 7, 2, 2), (9, 9, 2, 0)):
            path = walk(chance, 7, r, m)
            with self.subTest(w=w, h=h, r=r, m=m):
                self.assertTrue(told_apart(w, h, r, path))
                self.held(w, h, r, m, path)

    def test_a_shift_of_r_each_way_to_both_ends_of_the_margin(self):
        for r in (1, 4, 8):
            w = 2 * r + 5
            path = [(0, 0), (r, r), (0, 0), (-r, r), (0, 0), (r, -r), (0, 0), (-r, -r), (0, 0)]
            with self.subTest(r=r):
                self.assertTrue(told_apart(w, w, r, path))
                self.held(w, w, r, r, path)

    def test_reach_0_and_the_same_picture_again(self):
        self.held(9, 9, 0, 2, [(0, 0)] * 5)
        self.held(9, 9, 3, 2, [(0, 0)] * 5)
        self.held(256, 1, 0, 0, [(0, 0)] * 3)

    def test_a_scene_of_one_grey(self):
        calls = [frame(9, 7, 2, [33] * 63) for turn in range(5)]
        for slow in (0, 1, 2):
            parts = ask(begin(9, 7, 2, 2, slow), *calls, where())
            self.assertEqual(parts[1:], [[0, 2, 2] + [33] * 15] * 5 + [[0, 0, 0, 5]])


class HeldOrToldTest(unittest.TestCase):
    def followed(self, w, h, r, m, slow, pictures):
        """Of each picture behind the first: its answer, and how far from the place it was held to it's shown."""
        calls = [begin(w, h, r, m, slow)]
        for picture in pictures:
            calls += [frame(w, h, m, picture), where()]
        parts = ask(*calls)[1:]
        told = []
        for turn in range(1, len(pictures)):
            at = parts[2 * turn][1:3]
            was = parts[2 * turn - 2][1:3]
            moved = [now - then for now, then in zip(parts[2 * turn + 1][1:3], parts[2 * turn - 1][1:3])]
            aside = [abs(at[axis] - was[axis] - moved[axis]) for axis in (0, 1)]
            told.append((parts[2 * turn][0], max(aside), at, parts[2 * turn][3:]))
        return told

    def test_held_or_told_and_within(self):
        chance = random.Random(42)
        numbers = set()
        for turn in range(120):
            r = chance.randrange(4)
            w = 2 * r + 1 + chance.randrange(6)
            h = 2 * r + 1 + chance.randrange(6)
            m = chance.randrange((min(w, h) + 1) // 2)
            pictures = [window(w, h, *place) for place in walk(chance, 10, r + 1, 9)]
            for number, aside, at, shown in self.followed(w, h, r, m, turn % 4, pictures):
                numbers.add(number)
                self.assertIn(number, (0, 1, 2, 3))
                if number == 0:
                    self.assertEqual(aside, 0)
                elif number == 1:
                    self.assertEqual(aside, 1)
                else:
                    self.assertGreater(aside, 0)
                self.assertTrue(0 <= at[0] <= 2 * m and 0 <= at[1] <= 2 * m)
                self.assertEqual(len(shown), (w - 2 * m) * (h - 2 * m))
        self.assertEqual(numbers, {0, 1, 2, 3})

    def test_margin_0_is_told_at_each_move(self):
        pictures = [window(9, 9, *place) for place in ((0, 0), (1, 0), (1, 0), (0, 2))]
        self.assertEqual([told[0] for told in self.followed(9, 9, 2, 0, 0, pictures)], [2, 0, 2])


class BackToTheMiddleTest(unittest.TestCase):
    def test_if_nothing_moves_any_more(self):
        for m in (0, 1, 2, 3):
            for slow in (1, 2, 5):
                for ahead in range(slow + 1):
                    path = [(0, 0)] * (1 + ahead) + [(3, -3)] * (2 * m * slow + 2)
                    w = 2 * m + 11
                    heads = [answer[1:3] for answer in ask(begin(w, w, 3, m, slow), *path_calls(w, w, m, path))[1:]]
                    with self.subTest(m=m, slow=slow, ahead=ahead):
                        reached = 1 + ahead + 2 * m * slow
                        self.assertEqual(heads[reached:], [[m, m]] * (len(heads) - reached))

    def test_as_soon_as_its_turns_allow(self):
        path = [(0, 0)] + [(3, -3)] * 8
        heads = [answer[1:3] for answer in ask(begin(15, 15, 3, 3, 2), *path_calls(15, 15, 3, path))[1:]]
        self.assertEqual(heads.index([3, 3], 1), 6)


class CornersTest(unittest.TestCase):
    def test_w_256(self):
        path = [(0, 0), (8, 2), (4, 1)]
        parts = ask(begin(256, 17, 8, 4, 2), *path_calls(256, 17, 4, path), where())
        for answer, at, number, place in zip(parts[1:4], ([4, 4], [0, 2], [4, 4]), (0, 2, 1), path):
            self.assertEqual(answer, [number] + at + part(window(256, 17, *place), 256, 17, 4, *at))
        self.assertEqual(parts[4], [0, -4, -1, 3])

    def test_the_least_width_for_each_reach(self):
        for r in range(9):
            w = 2 * r + 1
            greys = list(window(w, w))
            parts = ask(begin(w, w, r, r), frame(w, w, r, greys), frame(w, w, r, greys), where())
            with self.subTest(r=r):
                self.assertEqual(parts[1:], [[0, r, r, greys[r * w + r]]] * 2 + [[0, 0, 0, 2]])


if __name__ == "__main__":
    unittest.main()

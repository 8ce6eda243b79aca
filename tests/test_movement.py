"""How far a picture has moved (M): what a shift costs, which one is found, and what holds of it."""

import random
import unittest

from heldstill.movement import Finder, sizes_are_right
from tests.helper import ask, begin, cost, find, frame, where, window

ENOUGH = 255 * 256 * 256 + 1


def all_shifts(r):
    return [(dx, dy) for dx in range(-r, r + 1) for dy in range(-r, r + 1)]


def costs(w, h, r, a, b):
    finder = Finder(w, h, r)
    return {shift: finder.shift_cost(a, b, shift, ENOUGH) for shift in all_shifts(r)}


def found(w, h, r, a, b):
    return Finder(w, h, r).found_shift(a, b)


def found_by_frame(w, h, r, a, b):
    return tuple(ask(begin(w, h, r, 0), frame(w, h, 0, a), frame(w, h, 0, b), where())[3][1:3])


def mirrored(w, picture):
    rows = [picture[start:start + w] for start in range(0, len(picture), w)]
    return [grey for row in rows for grey in reversed(row)]


def some_pictures(chance, tones):
    r = chance.randrange(4)
    w = 2 * r + 1 + chance.randrange(6)
    h = 2 * r + 1 + chance.randrange(6)
    return w, h, r, [chance.randrange(tones) for place in range(w * h)], [chance.randrange(tones) for place in range(w * h)]


class SizesTest(unittest.TestCase):
    def test_right_sizes(self):
        for w, h, r, right in (
            (1, 1, 0, True),
            (0, 1, 0, False),
            (1, 0, 0, False),
            (17, 17, 8, True),
            (16, 17, 8, False),
            (17, 16, 8, False),
            (256, 256, 8, True),
            (257, 256, 8, False),
            (256, 257, 8, False),
            (256, 256, 9, False),
        ):
            with self.subTest(w=w, h=h, r=r):
                self.assertEqual(sizes_are_right(w, h, r), right)


class CostTest(unittest.TestCase):
    def test_by_hand(self):
        a = [9, 9, 9, 9, 9, 40, 50, 9, 9, 9, 9, 9]
        b = [1, 2, 3, 4, 5, 6, 7, 8, 10, 20, 30, 41]
        self.assertEqual(costs(4, 3, 1, a, b)[(0, 0)], 34 + 43)
        self.assertEqual(costs(4, 3, 1, a, b)[(1, 1)], 10 + 9)
        self.assertEqual(costs(4, 3, 1, a, b)[(-1, -1)], 39 + 48)
        self.assertEqual(costs(4, 3, 1, a, b)[(1, -1)], 37 + 46)
        self.assertEqual(costs(4, 3, 1, a, b)[(-1, 1)], 30 + 30)

    def test_against_the_second_reckoning(self):
        chance = random.Random(31)
        for turn in range(60):
            w, h, r, a, b = some_pictures(chance, chance.choice((2, 256)))
            with self.subTest(turn=turn):
                slow = {(dx, dy): cost(w, h, r, a, b, dx, dy) for dx, dy in all_shifts(r)}
                self.assertEqual(costs(w, h, r, a, b), slow)

    def test_255_against_0_everywhere_at_256_by_256(self):
        a = [255] * 65536
        b = [0] * 65536
        finder = Finder(256, 256, 8)
        for shift in ((0, 0), (8, 8), (-8, 8), (-8, -8)):
            self.assertEqual(finder.shift_cost(a, b, shift, ENOUGH), 255 * 240 * 240)
            self.assertEqual(finder.shift_cost(b, a, shift, ENOUGH), 255 * 240 * 240)
        self.assertEqual(Finder(256, 256, 0).shift_cost(a, b, (0, 0), ENOUGH), 255 * 65536)
        self.assertEqual(finder.found_shift(a, b), (0, 0))


class FindTest(unittest.TestCase):
    def test_least_and_of_several_the_first_in_rank(self):
        chance = random.Random(32)
        for turn in range(200):
            w, h, r, a, b = some_pictures(chance, chance.choice((2, 3, 256)))
            with self.subTest(turn=turn):
                self.assertEqual(found(w, h, r, a, b), find(w, h, r, a, b))
                self.assertEqual(found_by_frame(w, h, r, a, b), find(w, h, r, a, b))

    def test_rows_of_31_32_and_33_places(self):
        chance = random.Random(33)
        for w in (31, 32, 33):
            for h, r in ((5, 2), (17, 8), (31, 3), (32, 1), (33, 0)):
                a = [chance.randrange(256) for place in range(w * h)]
                b = [chance.randrange(256) for place in range(w * h)]
                with self.subTest(w=w, h=h, r=r):
                    self.assertEqual(found_by_frame(w, h, r, a, b), find(w, h, r, a, b))

    def test_two_shifts_that_cost_the_same_to_either_side(self):
        # A stripe that comes again each second column, one column aside.
        a = [255 * (x % 2) for y in range(6) for x in range(8)]
        b = [255 - grey for grey in a]
        self.assertEqual(costs(8, 6, 2, a, b)[(-1, 0)], 0)
        self.assertEqual(costs(8, 6, 2, a, b)[(1, 0)], 0)
        self.assertEqual(found_by_frame(8, 6, 2, a, b), (-1, 0))
        a = [255 * (y % 2) for y in range(6) for x in range(8)]
        b = [255 - grey for grey in a]
        self.assertEqual(found_by_frame(8, 6, 2, a, b), (0, -1))

    def test_far_apart_everywhere_but_for_one_grey_in_a_corner(self):
        for r in (1, 8):
            for dx, dy in ((r, r), (-r, r), (r, -r), (-r, -r)):
                a = [255] * 1600
                b = [0] * 1600
                b[(39 if dy > 0 else 0) * 40 + (39 if dx > 0 else 0)] = 1
                with self.subTest(dx=dx, dy=dy):
                    self.assertEqual(found_by_frame(40, 40, r, a, b), (dx, dy))

    def test_one_grey_and_reach_0(self):
        self.assertEqual(found_by_frame(20, 20, 8, [70] * 400, [70] * 400), (0, 0))
        self.assertEqual(found_by_frame(20, 20, 8, [70] * 400, [71] * 400), (0, 0))
        self.assertEqual(found_by_frame(20, 20, 0, window(20, 20), window(20, 20, 1, 0)), (0, 0))


class HoldsTest(unittest.TestCase):
    def test_exactly(self):
        for w, h, r in ((11, 9, 2), (17, 17, 8), (17, 20, 8), (7, 40, 3), (256, 5, 1), (5, 5, 2)):
            for dx, dy in all_shifts(r):
                a = window(w, h)
                b = window(w, h, -dx, -dy)
                with self.subTest(w=w, h=h, r=r, dx=dx, dy=dy):
                    self.assertEqual(Finder(w, h, r).shift_cost(a, b, (dx, dy), ENOUGH), 0)
                    if w > 17 or h > 17 or [cost(w, h, r, a, b, *shift) for shift in all_shifts(r)].count(0) == 1:
                        self.assertEqual(found(w, h, r, a, b), (dx, dy))

    def test_least_and_a_picture_against_itself(self):
        chance = random.Random(34)
        for turn in range(60):
            w, h, r, a, b = some_pictures(chance, chance.choice((2, 256)))
            with self.subTest(turn=turn):
                every = costs(w, h, r, a, b)
                self.assertEqual(every[found_by_frame(w, h, r, a, b)], min(every.values()))
                self.assertEqual(found_by_frame(w, h, r, a, a), (0, 0))
                self.assertEqual(costs(w, h, r, a, a)[(0, 0)], 0)

    def test_light(self):
        chance = random.Random(35)
        for turn in range(60):
            w, h, r, a, b = some_pictures(chance, chance.choice((2, 200)))
            light_a = [grey + 55 for grey in a]
            light_b = [grey + 55 for grey in b]
            with self.subTest(turn=turn):
                self.assertEqual(costs(w, h, r, a, b), costs(w, h, r, light_a, light_b))
                self.assertEqual(found_by_frame(w, h, r, a, b), found_by_frame(w, h, r, light_a, light_b))

    def test_mirrored(self):
        chance = random.Random(36)
        for turn in range(60):
            w, h, r, a, b = some_pictures(chance, chance.choice((2, 256)))
            every = costs(w, h, r, a, b)
            others = costs(w, h, r, mirrored(w, a), mirrored(w, b))
            with self.subTest(turn=turn):
                self.assertEqual({(-dx, dy): others[(dx, dy)] for dx, dy in others}, every)
                if list(every.values()).count(min(every.values())) == 1:
                    dx, dy = found_by_frame(w, h, r, a, b)
                    self.assertEqual(found_by_frame(w, h, r, mirrored(w, a), mirrored(w, b)), (-dx, dy))


if __name__ == "__main__":
    unittest.main()

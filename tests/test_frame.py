"""Promise 2: frame."""

import unittest

from tests.helper import TOP, ask, begin, frame, part, path_calls, where, window


def heads(w, h, r, m, slow, path):
    """Of each frame on the window's path: its number and at."""
    return [answer[:3] for answer in ask(begin(w, h, r, m, slow), *path_calls(w, h, m, path))[1:]]


class RefusedTest(unittest.TestCase):
    def refused_frames(self):
        frames = []
        for w, h, m in ((11, 11, 2), (13, 11, 2), (12, 10, 2), (12, 12, 2), (11, 12, 2), (12, 11, 0), (12, 11, 1),
                        (12, 11, 3), (12, 11, TOP), (1, 1, 0), (256, 1, 2)):
            frames.append(frame(w, h, m, window(w, h, 7, 7)))
        for w, h in ((0, 11), (12, 0), (257, 11), (12, 257), (0, 0), (TOP, TOP), (TOP, 0), (12, TOP)):
            frames.append(frame(w, h, 2, []))
        return frames

    def test_each_that_is_not_as_at_the_beginning(self):
        for call in self.refused_frames():
            with self.subTest(head=call[:5]):
                self.assertEqual(ask(begin(12, 11, 2, 2), call), [[0], [-22]])

    def test_nothing_is_changed_by_it(self):
        refused = self.refused_frames()
        path = [(0, 0), (1, 1), (3, 1), (3, 1), (4, 0), (3, 0)]
        plain = []
        mixed = []
        for call in path_calls(12, 11, 2, path):
            plain += [call, where()]
            mixed += refused + [call, where()]
        answers_without = ask(begin(12, 11, 2, 2, 2), *plain)
        answers_with = ask(begin(12, 11, 2, 2, 2), *mixed)
        self.assertEqual([answer for answer in answers_with if answer != [-22]], answers_without)
        self.assertEqual(answers_with[1:1 + len(refused)], [[-22]] * len(refused))


class ShownTest(unittest.TestCase):
    def test_the_first_picture_is_shown_from_m_m(self):
        picture = list(range(30))
        self.assertEqual(
            ask(begin(6, 5, 2, 1), frame(6, 5, 1, picture))[1],
            [0, 1, 1, 7, 8, 9, 10, 13, 14, 15, 16, 19, 20, 21, 22],
        )

    def test_margin_0_shows_all(self):
        picture = list(range(30))
        self.assertEqual(ask(begin(6, 5, 2, 0), frame(6, 5, 0, picture))[1], [0, 0, 0] + picture)

    def test_one_place_is_shown(self):
        self.assertEqual(ask(begin(3, 3, 0, 1), frame(3, 3, 1, list(range(9))))[1], [0, 1, 1, 4])
        self.assertEqual(ask(begin(1, 1, 0, 0), frame(1, 1, 0, [255]))[1], [0, 0, 0, 255])

    def test_the_first_picture_does_not_give_way(self):
        self.assertEqual(heads(9, 9, 1, 2, 1, [(0, 0)]), [[0, 2, 2]])

    def test_the_greys_of_the_next_picture_at_its_new_place(self):
        w, h, m = 12, 9, 2
        for dx in range(-2, 3):
            for dy in range(-2, 3):
                answer = ask(begin(w, h, 2, m), *path_calls(w, h, m, [(0, 0), (-dx, -dy)]))[2]
                picture = window(w, h, -dx, -dy)
                with self.subTest(dx=dx, dy=dy):
                    self.assertEqual(answer, [0, 2 + dx, 2 + dy] + part(picture, w, h, m, 2 + dx, 2 + dy))

    def test_a_picture_worked_by_hand(self):
        first = [0, 0, 0, 0,
                 0, 9, 5, 0,
                 0, 7, 3, 0,
                 0, 0, 0, 0]
        # The same four greys, one column further right.
        second = [1, 0, 0, 0,
                  0, 0, 9, 5,
                  0, 0, 7, 3,
                  0, 0, 0, 2]
        parts = ask(begin(4, 4, 1, 1), frame(4, 4, 1, first), frame(4, 4, 1, second), where())
        self.assertEqual(parts, [[0], [0, 1, 1, 9, 5, 7, 3], [0, 2, 1, 9, 5, 7, 3], [0, 1, 0, 2]])


class FoundShiftTest(unittest.TestCase):
    def moved(self, w, h, r, a, b):
        return tuple(ask(begin(w, h, r, 0), frame(w, h, 0, a), frame(w, h, 0, b), where())[3][1:3])

    def ranked(self, r):
        shifts = [(dx, dy) for dx in range(-r, r + 1) for dy in range(-r, r + 1)]
        return sorted(shifts, key=lambda shift: (shift[0] ** 2 + shift[1] ** 2, shift[1], shift[0]))

    def spots(self, r, greys):
        """A picture of 2 r + 1 each way, all 200 but for the grey that each shift of the middle place leads to."""
        w = 2 * r + 1
        picture = [200] * (w * w)
        for (dx, dy), grey in greys.items():
            picture[(r + dy) * w + r + dx] = grey
        return picture

    def test_of_several_alike_the_one_that_the_words_name(self):
        order = [(0, 0), (0, -1), (-1, 0), (1, 0), (0, 1), (-1, -1), (1, -1), (-1, 1), (1, 1)]
        self.assertEqual(self.ranked(1), order)
        a = self.spots(1, {(0, 0): 100})
        for place, shift in enumerate(order):
            for other in order[place + 1:]:
                for greys in ((100, 100), (101, 101), (90, 110), (110, 90)):
                    b = self.spots(1, {shift: greys[0], other: greys[1]})
                    with self.subTest(shift=shift, other=other, greys=greys):
                        self.assertEqual(self.moved(3, 3, 1, a, b), shift)

    def test_what_costs_less_goes_before_what_lies_nearer(self):
        order = self.ranked(1)
        a = self.spots(1, {(0, 0): 100})
        for place, shift in enumerate(order):
            for other in order[place + 1:]:
                b = self.spots(1, {shift: 103, other: 98})
                with self.subTest(shift=shift, other=other):
                    self.assertEqual(self.moved(3, 3, 1, a, b), other)

    def test_of_each_two_next_in_rank_by_reaches_2_and_8(self):
        for r in (2, 8):
            order = self.ranked(r)
            w = 2 * r + 1
            a = self.spots(r, {(0, 0): 100})
            for shift, other in zip(order, order[1:]):
                b = self.spots(r, {shift: 90, other: 110})
                with self.subTest(r=r, shift=shift, other=other):
                    self.assertEqual(self.moved(w, w, r, a, b), shift)

    def test_only_the_middle_counts(self):
        a = self.spots(1, {(0, 0): 100})
        b = self.spots(1, {(1, 1): 100})
        for place in range(9):
            if place != 4:
                a[place] = 17 * place
        self.assertEqual(self.moved(3, 3, 1, a, b), (1, 1))

    def test_differences_are_added_as_they_are(self):
        # One row of places counts; (0, 0) sets it against `same`, (0, 1) against `below`, all else is far off.
        for same, below, shift in (
            ((50, 60, 50), (54, 54, 54), (0, 0)),
            ((54, 54, 54), (50, 61, 50), (0, 1)),
            ((50, 50, 63), (46, 54, 46), (0, 1)),
            ((54, 46, 50), (50, 50, 55), (0, 1)),
            ((46, 50, 54), (41, 50, 50), (0, 0)),
        ):
            a = [50] * 15
            b = [255] * 6 + list(same) + [255] * 2 + list(below) + [255]
            with self.subTest(same=same, below=below):
                self.assertEqual(self.moved(5, 3, 1, a, b), shift)

    def test_the_shift_is_against_the_picture_before_not_the_first(self):
        parts = ask(begin(13, 13, 2, 3), *path_calls(13, 13, 3, [(0, 0), (2, 1), (3, 3)]), where())
        self.assertEqual([answer[:3] for answer in parts[1:4]], [[0, 3, 3], [0, 1, 2], [0, 0, 0]])
        self.assertEqual(parts[4], [0, -3, -3, 3])


class MarginTest(unittest.TestCase):
    def test_the_ends_touched(self):
        for dx, dy in ((-2, 0), (2, 0), (0, -2), (0, 2), (2, -2), (-2, 2)):
            with self.subTest(dx=dx, dy=dy):
                found = heads(11, 11, 2, 2, 0, [(0, 0), (-dx, -dy)])
                self.assertEqual(found, [[0, 2, 2], [0, 2 + dx, 2 + dy]])

    def test_the_ends_passed(self):
        for dx, dy, at in (
            (-3, 0, [0, 2]),
            (3, 0, [4, 2]),
            (0, -3, [2, 0]),
            (0, 3, [2, 4]),
            (3, -3, [4, 0]),
            (-3, 1, [0, 3]),
            (-2, 3, [0, 4]),
        ):
            with self.subTest(dx=dx, dy=dy):
                found = heads(11, 11, 3, 2, 0, [(0, 0), (-dx, -dy)])
                self.assertEqual(found, [[0, 2, 2], [2] + at])

    def test_from_an_end_that_was_passed_it_goes_on_from_there(self):
        path = [(0, 0), (-3, 0), (-3, 0), (-1, 0), (-5, 1)]
        self.assertEqual(
            heads(13, 13, 4, 2, 0, path),
            [[0, 2, 2], [2, 4, 2], [0, 4, 2], [0, 2, 2], [2, 4, 1]],
        )

    def test_margin_0_passed(self):
        self.assertEqual(heads(9, 9, 1, 0, 0, [(0, 0), (-1, 0), (-1, 0)]), [[0, 0, 0], [2, 0, 0], [0, 0, 0]])


class SlowTest(unittest.TestCase):
    def test_slow_0_never_gives_way(self):
        self.assertEqual(heads(9, 9, 1, 2, 0, [(0, 0)] + [(1, 0)] * 20), [[0, 2, 2]] + [[0, 1, 2]] * 20)

    def test_slow_1_gives_way_at_each(self):
        path = [(0, 0), (-3, 2), (-3, 2), (-3, 2), (-3, 2), (-3, 2)]
        self.assertEqual(
            heads(13, 13, 3, 3, 1, path),
            [[0, 3, 3], [1, 5, 2], [1, 4, 3], [1, 3, 3], [0, 3, 3], [0, 3, 3]],
        )

    def test_slow_2_and_3_give_way_at_each_second_and_third_behind_the_first(self):
        path = [(0, 0)] + [(3, -3)] * 7
        self.assertEqual(
            heads(13, 13, 3, 3, 2, path),
            [[0, 3, 3], [0, 0, 6], [1, 1, 5], [0, 1, 5], [1, 2, 4], [0, 2, 4], [1, 3, 3], [0, 3, 3]],
        )
        self.assertEqual(
            heads(13, 13, 3, 3, 3, path),
            [[0, 3, 3], [0, 0, 6], [0, 0, 6], [1, 1, 5], [0, 1, 5], [0, 1, 5], [1, 2, 4], [0, 2, 4]],
        )

    def test_only_the_number_that_is_not_m_goes_nearer(self):
        self.assertEqual(heads(9, 9, 1, 2, 1, [(0, 0), (0, 1)]), [[0, 2, 2], [1, 2, 2]])
        self.assertEqual(heads(9, 9, 2, 2, 1, [(0, 0), (2, 0)]), [[0, 2, 2], [1, 1, 2]])

    def test_what_lies_at_m_when_its_turn_comes_stays(self):
        path = [(0, 0), (1, 1), (0, 0)]
        self.assertEqual(heads(9, 9, 1, 2, 2, path), [[0, 2, 2], [0, 1, 1], [0, 2, 2]])

    def test_it_goes_nearer_first_and_is_kept_within_then(self):
        for side in (-1, 1):
            with self.subTest(side=side):
                # One past the end: giving way brings it back to the end, so no end is passed.
                self.assertEqual(heads(13, 13, 4, 2, 1, [(0, 0), (-3 * side, 0)])[1], [1, 2 + 2 * side, 2])
                self.assertEqual(heads(13, 13, 4, 2, 1, [(0, 0), (0, -4 * side)])[1], [3, 2, 2 + 2 * side])
        self.assertEqual(heads(9, 9, 2, 0, 1, [(0, 0), (1, 0), (3, 0)]), [[0, 0, 0], [1, 0, 0], [3, 0, 0]])

    def test_3_when_one_number_goes_nearer_and_the_other_passes_its_end(self):
        # (dx, dy) = (1, 4): the first gives way only, the second does both.
        self.assertEqual(heads(13, 13, 4, 2, 1, [(0, 0), (-1, -4)])[1], [3, 2, 4])

    def test_a_pass_between_the_turns_is_2(self):
        path = [(0, 0), (-4, 0), (-4, 0), (-8, 0), (-12, 0)]
        self.assertEqual(
            heads(13, 13, 4, 2, 2, path),
            [[0, 2, 2], [2, 4, 2], [1, 3, 2], [2, 4, 2], [3, 4, 2]],
        )

    def test_the_greys_shown_after_giving_way(self):
        answer = ask(begin(9, 8, 2, 2, 1), *path_calls(9, 8, 2, [(0, 0), (2, -2)]))[2]
        self.assertEqual(answer, [1, 1, 3] + part(window(9, 8, 2, -2), 9, 8, 2, 1, 3))

    def test_a_slow_that_is_reached_late_or_never(self):
        path = [(0, 0)] + [(1, 1)] * 398
        stays = [[0, 2, 2]] + [[0, 1, 1]] * 397
        self.assertEqual(heads(5, 5, 1, 2, 398, path), stays + [[1, 2, 2]])
        self.assertEqual(heads(5, 5, 1, 2, 399, path), stays + [[0, 1, 1]])
        self.assertEqual(heads(5, 5, 1, 2, 65535, path), stays + [[0, 1, 1]])


if __name__ == "__main__":
    unittest.main()

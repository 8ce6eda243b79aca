"""Promise 1: begin."""

import unittest

from tests.helper import TOP, ask, begin, frame, path_calls, where, window


class BeginTest(unittest.TestCase):
    def test_ordinary(self):
        self.assertEqual(ask(begin(20, 10, 3, 2, 5)), [[0]])

    def answer(self, *numbers):
        return ask(begin(*numbers))[0]

    def test_width_and_height_at_their_edges_for_each_reach(self):
        for r in range(9):
            least = 2 * r + 1
            for w, h, right in (
                (least, least, True),
                (least, 256, True),
                (256, least, True),
                (256, 256, True),
                (least - 1, 256, False),
                (256, least - 1, False),
                (257, least, False),
                (least, 257, False),
            ):
                with self.subTest(w=w, h=h, r=r):
                    self.assertEqual(self.answer(w, h, r, 0, 0), [0] if right else [-22])

    def test_reach_at_its_edge(self):
        self.assertEqual(self.answer(256, 256, 8, 0, 0), [0])
        self.assertEqual(self.answer(256, 256, 9, 0, 0), [-22])
        self.assertEqual(self.answer(19, 19, 9, 0, 0), [-22])

    def test_margin_at_its_edge(self):
        for w, h, m, right in (
            (1, 1, 0, True),
            (1, 1, 1, False),
            (9, 9, 4, True),
            (9, 9, 5, False),
            (10, 256, 4, True),
            (10, 256, 5, False),
            (256, 10, 4, True),
            (256, 10, 5, False),
            (256, 11, 5, True),
            (11, 256, 5, True),
            (256, 256, 127, True),
            (256, 256, 128, False),
        ):
            with self.subTest(w=w, h=h, m=m):
                self.assertEqual(self.answer(w, h, 0, m, 0), [0] if right else [-22])

    def test_slow_at_its_edge(self):
        self.assertEqual(self.answer(9, 9, 1, 1, 0), [0])
        self.assertEqual(self.answer(9, 9, 1, 1, 1), [0])
        self.assertEqual(self.answer(9, 9, 1, 1, 65535), [0])
        self.assertEqual(self.answer(9, 9, 1, 1, 65536), [-22])

    def test_the_greatest_numbers(self):
        for place in range(5):
            numbers = [9, 9, 1, 1, 1]
            numbers[place] = TOP
            with self.subTest(place=place):
                self.assertEqual(self.answer(*numbers), [-22])
        self.assertEqual(self.answer(0, 0, 0, 0, 0), [-22])

    def test_no_picture_has_come_and_nothing_has_moved(self):
        self.assertEqual(ask(begin(9, 9, 1, 1), where()), [[0], [0, 0, 0, 0]])

    def test_the_reach_is_r(self):
        for r in range(1, 9):
            with self.subTest(r=r):
                w = 2 * r + 7
                parts = ask(begin(w, w, r, 0), *path_calls(w, w, 0, [(0, 0), (-r, r)]), where())
                self.assertEqual(parts[-1], [0, r, -r, 2])
                parts = ask(begin(w, w, r - 1, 0), *path_calls(w, w, 0, [(0, 0), (-r, r)]), where())
                self.assertNotEqual(parts[-1], [0, r, -r, 2])

    def test_a_refused_begin_leaves_all_as_it_was(self):
        refused = [
            begin(12, 11, 9, 2, 3),
            begin(4, 11, 2, 2, 3),
            begin(12, 257, 2, 2, 3),
            begin(12, 11, 2, 6, 3),
            begin(12, 11, 2, 2, 65536),
            begin(0, 0, 0, 0, 0),
        ]
        path = [(0, 0), (2, 1), (1, -1), (1, -1), (3, 1), (5, 3), (5, 3), (5, 3)]
        frames = path_calls(12, 11, 2, path)
        plain = []
        mixed = []
        for call in frames:
            plain += [call, where()]
            mixed += refused + [call] + refused + [where()]
        answers_without = ask(begin(12, 11, 2, 2, 3), *plain)
        answers_with = ask(begin(12, 11, 2, 2, 3), *mixed)
        self.assertEqual([part for part in answers_with if part != [-22]], answers_without)
        self.assertEqual(len(answers_with), len(answers_without) + 2 * len(refused) * len(frames))

    def test_begun_again_all_is_new(self):
        before = [begin(12, 11, 2, 2, 2)] + path_calls(12, 11, 2, [(0, 0), (2, 2), (4, 4), (5, 5)])
        for numbers in ((12, 11, 2, 2, 2), (12, 11, 2, 2, 3), (12, 11, 1, 2, 0), (13, 9, 2, 1, 1), (11, 12, 3, 0, 0)):
            w, h, r, m, slow = numbers
            after = [begin(*numbers), where()]
            for call in path_calls(w, h, m, [(9, 9), (8, 9), (7, 9), (7, 9), (7, 9)]):
                after += [call, where()]
            with self.subTest(numbers=numbers):
                self.assertEqual(ask(*before, *after)[len(before):], ask(*after))

    def test_begun_again_the_old_sizes_are_refused(self):
        picture = window(12, 11)
        parts = ask(begin(12, 11, 2, 2), begin(11, 12, 2, 2), frame(12, 11, 2, picture), frame(11, 12, 2, picture))
        self.assertEqual(parts[2], [-22])
        self.assertEqual(parts[3][:3], [0, 2, 2])


if __name__ == "__main__":
    unittest.main()

"""Promise 3: where."""

import unittest

from tests.helper import ask, begin, frame, path_calls, where, window


class WhereTest(unittest.TestCase):
    def test_before_the_first_picture(self):
        self.assertEqual(ask(begin(9, 9, 1, 2), where(), where()), [[0], [0, 0, 0, 0], [0, 0, 0, 0]])

    def test_after_one_picture_nothing_has_moved(self):
        self.assertEqual(ask(begin(9, 9, 1, 2), frame(9, 9, 2, window(9, 9)), where())[2], [0, 0, 0, 1])

    def test_after_some(self):
        path = [(0, 0), (2, -1), (2, -1), (1, 1), (-1, 3)]
        calls = [begin(13, 12, 2, 3)]
        for call in path_calls(13, 12, 3, path):
            calls += [call, where()]
        self.assertEqual(
            ask(*calls)[2::2],
            [[0, 0, 0, 1], [0, -2, 1, 2], [0, -2, 1, 3], [0, -1, -1, 4], [0, 1, -3, 5]],
        )

    def test_all_the_scene_moved_though_the_margin_is_passed_and_it_gives_way(self):
        path = [(0, 0), (-3, 3), (-6, 6), (-9, 9), (-9, 9)]
        for slow in (0, 1, 2):
            with self.subTest(slow=slow):
                parts = ask(begin(13, 13, 3, 1, slow), *path_calls(13, 13, 1, path), where())
                self.assertEqual(parts[-1], [0, 9, -9, 5])

    def test_asking_changes_nothing(self):
        frames = path_calls(13, 12, 3, [(0, 0), (2, -1), (2, -1), (1, 1)])
        asked = [begin(13, 12, 2, 3, 2)]
        for call in frames:
            asked += [where(), where(), call]
        self.assertEqual(ask(*asked)[3::3], ask(begin(13, 12, 2, 3, 2), *frames)[1:])

    def test_after_a_begin_anew(self):
        frames = path_calls(13, 12, 3, [(0, 0), (2, -1), (1, 1)])
        parts = ask(begin(13, 12, 2, 3), *frames, where(), begin(13, 12, 2, 3), where(), frames[2], where())
        self.assertEqual(parts[4], [0, -1, -1, 3])
        self.assertEqual(parts[6], [0, 0, 0, 0])
        self.assertEqual(parts[8], [0, 0, 0, 1])

    def test_after_refusals(self):
        frames = path_calls(13, 12, 3, [(0, 0), (2, -1)])
        refused = [begin(13, 12, 9, 3), begin(13, 12, 2, 6), frame(13, 12, 2, window(13, 12)), frame(0, 12, 3, [])]
        self.assertEqual(ask(begin(13, 12, 2, 3), *refused, where())[-1], [0, 0, 0, 0])
        self.assertEqual(ask(begin(13, 12, 2, 3), *frames, *refused, where())[-1], [0, -2, 1, 2])


if __name__ == "__main__":
    unittest.main()

"""The interface: how calls are written in the one list, and what is given back of each."""

import random
import unittest

from heldstill.shaking import answers
from tests.helper import TOP, begin, frame, joined, part, parted, path_calls, second_reckoning, where, window


class Unchanging(list):
    """A list that fails as soon as anything would change it."""

    def refuse(self, *args, **kwargs):
        raise AssertionError("the list handed in was changed")

    append = extend = insert = pop = remove = clear = reverse = sort = refuse
    __setitem__ = __delitem__ = __iadd__ = __imul__ = refuse


def mixed_calls():
    calls = [begin(9, 8, 2, 1, 2), where()]
    calls += path_calls(9, 8, 1, [(0, 0), (2, 1), (1, 1), (1, 1)])
    calls += [frame(8, 9, 1, window(8, 9)), frame(257, 8, 1, []), begin(9, 8, 2, 4), where()]
    calls += [begin(7, 7, 1, 0), frame(7, 7, 0, window(7, 7)), where()]
    return calls


class FormTest(unittest.TestCase):
    def test_several_calls_in_one_list_with_their_counts(self):
        a = list(range(9))
        given = answers([0, 3, 3, 1, 1, 0, 2, 1, 3, 3, 1, 9] + a + [2, 0, 3, 3, 2, 1, 0, 1, 3, 3, 1, 9] + a)
        self.assertEqual(given, [1, 0, 4, 0, 0, 0, 0, 4, 0, 1, 1, 4, 4, 0, 0, 0, 1, 1, -22, 4, 0, 1, 1, 4])

    def test_how_many_numbers_each_answer_has(self):
        for w, h, m in ((1, 1, 0), (9, 8, 0), (9, 8, 1), (9, 8, 3), (31, 5, 2), (256, 1, 0), (3, 256, 1)):
            given = answers(joined([begin(w, h, 0, m), frame(w, h, m, window(w, h)), where()]))
            shown = (w - 2 * m) * (h - 2 * m)
            with self.subTest(w=w, h=h, m=m):
                self.assertEqual(given[:3], [1, 0, 3 + shown])
                self.assertEqual(given[3:6], [0, m, m])
                self.assertEqual(given[6:6 + shown], part(window(w, h), w, h, m, m, m))
                self.assertEqual(given[6 + shown:], [4, 0, 0, 0, 1])

    def test_a_refusal_is_its_number_alone(self):
        self.assertEqual(answers(begin(3, 3, 9, 0)), [1, -22])
        self.assertEqual(answers(begin(3, 3, 1, 0) + frame(1, 1, 0, [7])), [1, 0, 1, -22])

    def test_a_refused_frame_that_has_its_greys(self):
        calls = [begin(3, 3, 1, 0), frame(2, 2, 0, [2, 2, 2, 2]), where(), frame(3, 3, 1, [1] * 9), where()]
        self.assertEqual(parted(answers(joined(calls))), [[0], [-22], [0, 0, 0, 0], [-22], [0, 0, 0, 0]])

    def test_a_refused_frame_that_has_none(self):
        for w, h in ((0, 3), (3, 0), (257, 3), (3, 257), (TOP, TOP), (0, 0)):
            calls = [begin(3, 3, 1, 0), [1, w, h, 0, 0], where(), frame(3, 3, 0, [1] * 9), where()]
            with self.subTest(w=w, h=h):
                found = parted(answers(joined(calls)))
                self.assertEqual(found, [[0], [-22], [0, 0, 0, 0], [0, 0, 0] + [1] * 9, [0, 0, 0, 1]])

    def test_an_empty_list(self):
        self.assertEqual(answers([]), [])

    def test_a_list_of_plain_whole_numbers(self):
        given = answers(joined(mixed_calls()))
        self.assertIs(type(given), list)
        self.assertEqual({type(number) for number in given}, {int})


class NothingKeptTest(unittest.TestCase):
    def test_the_list_handed_in_is_as_it_was(self):
        calls = joined(mixed_calls())
        copied = list(calls)
        given = answers(Unchanging(calls))
        self.assertEqual(given, answers(calls))
        self.assertEqual(calls, copied)

    def test_what_is_given_back_is_a_list_of_its_own(self):
        calls = joined(mixed_calls())
        first = answers(calls)
        kept = list(first)
        first.clear()
        self.assertEqual(answers(calls), kept)

    def test_asked_twice_the_same_answer(self):
        calls = joined(mixed_calls())
        self.assertEqual(answers(calls), answers(calls))

    def test_each_list_is_a_new_object(self):
        first = joined([begin(9, 9, 2, 2, 1)] + path_calls(9, 9, 2, [(0, 0), (1, 1)]))
        second = joined([begin(9, 9, 2, 2, 1), where()] + path_calls(9, 9, 2, [(2, 1), (2, 2)]) + [where()])
        alone = answers(second)
        answers(first)
        self.assertEqual(answers(second), alone)
        self.assertEqual(parted(alone)[1], [0, 0, 0, 0])


class AgainstTheSecondReckoningTest(unittest.TestCase):
    def some_calls(self, chance):
        calls = []
        sizes = (1, 1, 0)
        for number in range(chance.randrange(5, 30)):
            kind = chance.randrange(12) if calls else 0
            if kind == 0:
                call, sizes = self.some_begin(chance, sizes, right=not calls)
            elif kind == 1:
                call = where()
            elif kind == 2:
                w, h, m = (chance.choice((side - 1, side, side + 1)) for side in sizes)
                m = max(0, m)
                call = frame(w, h, m, self.some_greys(chance, w * h, 256))
            else:
                w, h, m = sizes
                call = frame(w, h, m, self.some_greys(chance, w * h, chance.choice((1, 2, 3, 256))))
            calls.append(call)
        return calls

    def some_greys(self, chance, count, tones):
        return [chance.randrange(tones) for place in range(count)]

    def some_begin(self, chance, sizes, right):
        if not right and chance.randrange(3) == 0:
            return begin(*chance.choice(((1, 1, 1, 0), (9, 9, 9, 0), (9, 5, 1, 3), (9, 9, 1, 1, 65536)))), sizes
        r = chance.randrange(4)
        w = 2 * r + 1 + chance.randrange(7)
        h = 2 * r + 1 + chance.randrange(7)
        m = chance.randrange((min(w, h) + 1) // 2)
        return begin(w, h, r, m, chance.choice((0, 0, 1, 2, 3, 65535))), (w, h, m)

    def test_many_lists(self):
        chance = random.Random(20)
        for turn in range(250):
            calls = self.some_calls(chance)
            with self.subTest(turn=turn):
                self.assertEqual(parted(answers(joined(calls))), second_reckoning(calls))

    def test_the_longest_lists(self):
        shift = [(0, 0), (8, -8)]
        calls = [begin(256, 58, 8, 8, 1)] + path_calls(256, 58, 8, shift) + [where()]
        parts = parted(answers(joined(calls)))
        self.assertEqual(parts[2][:3], [1, 1, 15])
        self.assertEqual(parts[2][3:], part(window(256, 58, 8, -8), 256, 58, 8, 1, 15))
        self.assertEqual(parts[3], [0, -8, 8, 2])
        calls = [begin(3, 3, 1, 1, 1)] + [frame(3, 3, 1, window(3, 3, turn, 0)) for turn in range(398)] + [where()]
        self.assertEqual(parted(answers(joined(calls))), second_reckoning(calls))


if __name__ == "__main__":
    unittest.main()

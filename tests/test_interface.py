"""The function answers: its form, what it leaves alone, and that it keeps nothing."""

import unittest

from stagefades.cues import answers
from tests.helper import Chance


class Unchangeable(list):
    """A list that can't be changed, not for a while either."""

    def refuse(self, *given, **named):
        raise AssertionError("changed what was handed in")

    append = extend = insert = pop = remove = clear = sort = reverse = refuse
    __setitem__ = __delitem__ = __iadd__ = __imul__ = refuse


def flat(calls):
    return [number for call in calls for number in call]


class FormTest(unittest.TestCase):
    def test_calls_and_answers(self):
        calls = [0, 5, 3, 0, 0, 0, 4, 1, 100, 9, 50, 1, 10, 3, 11, 1, 3, 10, 1, 3, 13, 9, 2, 6, 10, 2, 5, 20, 1, 20]
        self.assertEqual(answers(calls), [1, 1, 1, 5, 2, 100, 3, 2, 0, 1, 2, 50, 1, 1, -4, 1, 5, 1, -3])

    def test_one_call(self):
        self.assertEqual(answers([0, 1, 0, 0, 0, 0, 0]), [1, 1])
        self.assertEqual(answers([0, 1, 0, 0, 0, 0, 3, 1, 2, 3]), [1, -1])
        self.assertEqual(answers([1, 0]), [1, -3])
        self.assertEqual(answers([2, 0, 0]), [1, -4])
        self.assertEqual(answers([3, 0, 1]), [2, 0, 1])
        self.assertEqual(answers([3, 0, 0]), [1, -1])
        self.assertEqual(answers([4, 0]), [2, 0, 0])
        self.assertEqual(answers([4, 1000001]), [1, -1])
        self.assertEqual(answers([5]), [1, 0])
        self.assertEqual(answers([6, 7, 1, 0]), [1, 7])
        self.assertEqual(answers([6, 7, 1, 1]), [1, -3])
        self.assertEqual(answers([6, 7, 65, 0]), [1, -1])
        self.assertEqual(answers([7]), [1, 0])

    def test_all_calls_behind_one_another(self):
        calls = [
            0, 5, 4, 0, 0, 6, 2, 1, 80, 0, 7, 0, 0, 0, 0, 0, 1, 10, 4, 10, 4, 16, 5, 6, 10, 1, 30, 3, 12, 1, 7, 5, 4, 3,
        ]
        self.assertEqual(answers(calls), [
            1, 1, 1, 2, 1, 5, 3, 5, 1, 16, 2, 7, 0, 1, 16, 1, 12, 2, 40, 1, 1, 0, 1, 0, 2, 0, 0,
        ])

    def test_the_largest_numbers(self):
        top = 4294967295
        first = [0, top, top, top, top, top, 2, top, top]
        calls = [first, [1, top], [2, top, top], [3, top, top], [4, top], [6, top, top, top]]
        self.assertEqual(answers(flat(calls)), [1, -1] * 6)

    def test_200_numbers_of_moves(self):
        moves = flat([channel, 1] for channel in range(1, 101))
        self.assertEqual(answers([0, 1, 0, 0, 0, 0, 200, *moves, 1, 0]), [1, -1, 1, -3])

    def test_400_calls(self):
        self.assertEqual(answers([3, 1000000, 64] * 400), [2, 0, 1] * 400)
        self.assertEqual(answers([4, 1000000, 5, 6, 1000000, 64, 0, 7] * 100), [2, 0, 0, 1, 0, 1, 1000000, 1, 0] * 100)

    def test_plain_lists_of_whole_numbers(self):
        found = answers(flat(Chance(1).calls(100)))
        self.assertIs(type(found), list)
        self.assertEqual({type(number) for number in found}, {int})


class KeepsNothingTest(unittest.TestCase):
    def test_what_is_handed_in_stays(self):
        for seed in range(20):
            calls = flat(Chance(seed).calls(60))
            handed = Unchangeable(calls)
            answers(handed)
            self.assertEqual(list(handed), calls)

    def test_each_time_as_for_the_first_time(self):
        lists = [flat(Chance(seed).calls(60)) for seed in range(10)]
        first = [answers(calls) for calls in lists]
        self.assertEqual([answers(calls) for calls in reversed(lists)], first[::-1])

    def test_cues_and_times_arent_kept(self):
        cue = [0, 1, 0, 0, 0, 0, 2, 1, 50]
        self.assertEqual(answers([*cue, 1, 500, 3, 500, 1]), [1, 1, 1, 1, 2, 50, 1])
        self.assertEqual(answers([3, 0, 1, 1, 0]), [2, 0, 1, 1, -3])
        self.assertEqual(answers([*cue, 1, 0]), [1, 1, 1, 1])

    def test_what_was_answered_is_the_callers(self):
        calls = [0, 1, 0, 0, 0, 0, 2, 1, 50, 1, 0, 3, 0, 1]
        found = answers(calls)
        found.clear()
        self.assertEqual(answers(calls), [1, 1, 1, 1, 2, 50, 1])


if __name__ == "__main__":
    unittest.main()

"""The call cue: what it answers and what it refuses."""

import unittest

from tests.helper import ask, ask_last, at, cue, go, goto

FULL = [number for channel in range(1, 65) for number in (channel, 100)]


def many(count):
    return [cue(number) for number in range(1, count + 1)]


class CueTest(unittest.TestCase):
    def test_answers_how_many_there_are(self):
        self.assertEqual(ask(cue(1), cue(5, 1, 2, 3, 4, [1, 50]), cue(9999)), [[1], [2], [3]])

    def test_a_cue_may_be_added_when_others_have_gone(self):
        self.assertEqual(ask(cue(3), go(7), cue(4), go(7)), [[1], [3], [2], [4]])

    def test_moves_may_be_none_or_all(self):
        self.assertEqual(ask(cue(1), cue(2, moves=FULL)), [[1], [2]])
        self.assertEqual(ask_last(cue(1, moves=FULL), go(0), at(0, 64)), [100, 1])

    def test_number_is_above_the_last_ones(self):
        self.assertEqual(ask(cue(7), cue(7), cue(6), cue(8)), [[1], [-1], [-1], [2]])
        self.assertEqual(ask(cue(3), cue(9), cue(5)), [[1], [2], [-1]])

    def test_the_first_number_is_above_0(self):
        self.assertEqual(ask(cue(0), cue(1)), [[-1], [1]])

    def test_number_is_at_most_9999(self):
        self.assertEqual(ask(cue(10000), cue(4294967295), cue(9999)), [[-1], [-1], [1]])

    def test_each_time_is_at_most_600(self):
        for place in range(4):
            times = [0, 0, 0, 0]
            times[place] = 600
            self.assertEqual(ask(cue(1, *times)), [[1]])
            times[place] = 601
            self.assertEqual(ask(cue(1, *times)), [[-1]])
            times[place] = 4294967295
            self.assertEqual(ask(cue(1, *times)), [[-1]])

    def test_an_odd_number_of_numbers(self):
        for moves in ([1], [1, 50, 2], [1, 50, 2, 60, 3]):
            self.assertEqual(ask(cue(1, moves=moves)), [[-1]])

    def test_channels_are_1_to_64(self):
        for moves in ([0, 50], [65, 50], [0, 50, 1, 50], [64, 50, 65, 50], [4294967295, 50]):
            self.assertEqual(ask(cue(1, moves=moves)), [[-1]])
        for moves in ([1, 50], [64, 50], [1, 50, 64, 50]):
            self.assertEqual(ask(cue(1, moves=moves)), [[1]])

    def test_channels_rise(self):
        for moves in ([2, 50, 2, 50], [2, 50, 1, 50], [1, 0, 3, 0, 2, 0], [1, 0, 2, 0, 2, 0]):
            self.assertEqual(ask(cue(1, moves=moves)), [[-1]])

    def test_levels_are_at_most_100(self):
        self.assertEqual(ask(cue(1, moves=[1, 100, 2, 0])), [[1]])
        for moves in ([1, 101], [1, 100, 2, 101], [1, 101, 2, 100], [1, 4294967295]):
            self.assertEqual(ask(cue(1, moves=moves)), [[-1]])

    def test_at_most_24_cues(self):
        self.assertEqual(ask(*many(26))[22:], [[23], [24], [-5], [-5]])

    def test_wrong_numbers_are_refused_ahead_of_too_many(self):
        wrong = [cue(24), cue(10000), cue(25, 601), cue(25, moves=[1]), cue(25, moves=[65, 1])]
        self.assertEqual(ask(*many(24), *wrong, cue(25))[24:], [[-1]] * 5 + [[-5]])

    def test_a_refused_cue_changes_nothing(self):
        wrong = [cue(2, 601, moves=[1, 9]), cue(3, moves=[1, 9, 1, 9]), cue(10000), cue(4, moves=[1, 9, 2])]
        found = ask(cue(1, moves=[1, 40]), *wrong, cue(2, moves=[2, 60]), go(0), go(1), go(2), at(2, 1), at(2, 2))
        self.assertEqual(found, [[1], [-1], [-1], [-1], [-1], [2], [1], [2], [-3], [40, 1], [60, 1]])

    def test_a_cue_too_many_changes_nothing(self):
        found = ask(*many(24), cue(30, moves=[1, 50]), goto(30, 0), goto(24, 0), go(0), at(0, 1))
        self.assertEqual(found[24:], [[-5], [-4], [24], [-3], [0, 1]])


if __name__ == "__main__":
    unittest.main()

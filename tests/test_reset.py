"""The call reset: all but the cues is as at first."""

import unittest

from tests.helper import Chance, ask, ask_last, at, cue, go, goto, levels, reset, stand, still, when

CUES = [cue(2, 10, 10, 0, 20, [1, 100, 2, 50]), cue(4, 10, 6, 30, 5, [1, 40, 64, 7]), cue(6, 8, 8, moves=[2, 0])]


def behind(*calls):
    return ask(*CUES, *calls)[3:]


class ResetTest(unittest.TestCase):
    def test_it_answers_0(self):
        self.assertEqual(ask(reset()), [[0]])
        self.assertEqual(behind(reset(), go(5), reset(), reset()), [[0], [2], [0], [0]])

    def test_the_cues_stay(self):
        found = behind(go(5), reset(), go(0), go(1), go(2), go(3), goto(4, 3), goto(5, 3))
        self.assertEqual(found, [[2], [0], [2], [4], [6], [-3], [4], [-4]])
        self.assertEqual(behind(reset(), cue(6), cue(7), go(0)), [[0], [-1], [4], [2]])
        cues = [cue(number) for number in range(1, 25)]
        self.assertEqual(ask(*cues, reset(), cue(25), goto(24, 0))[24:], [[0], [-5], [24]])

    def test_no_cue_has_gone(self):
        self.assertEqual(behind(goto(6, 9), reset(), stand(0), stand(1000000), go(3)), [[6], [0], [0, 0], [0, 0], [2]])

    def test_nothing_follows(self):
        calls = [go(5), reset()]
        found = behind(*calls, stand(25), stand(90), still(), when(0, 64, 7))
        self.assertEqual(found, [[2], [0], [0, 0], [0, 0], [0], [-3]])
        self.assertEqual(behind(*calls, go(90), stand(90)), [[2], [0], [2], [2, 1, 110]])

    def test_nothing_goes_on_and_nothing_begins_any_more(self):
        for before in ([go(5)], [go(5), go(7)], [goto(4, 3)], [goto(4, 9), goto(6, 10)]):
            calls = [*CUES, *before, reset()]
            for time in (0, 5, 8, 25, 39, 45, 1000000):
                self.assertEqual(levels(calls, time, range(1, 65)), [0] * 64)
            self.assertEqual(ask_last(*calls, still()), [0])
            self.assertEqual(ask_last(*calls, when(0, 1, 1)), [-3])

    def test_times_from_0_on_may_be_told_again(self):
        calls = [go(500000), go(600000), reset()]
        self.assertEqual(behind(*calls[:2], at(0, 1), stand(0), when(0, 1, 0), go(0), goto(2, 0))[2:], [[-1]] * 5)
        found = behind(*calls, at(0, 1), stand(0), when(0, 1, 0), go(0), goto(2, 0))[3:]
        self.assertEqual(found, [[0, 1], [0, 0], [0], [2], [2]])

    def test_a_fade_begins_at_0_again(self):
        calls = [*CUES, go(0), go(15), reset(), go(2)]
        self.assertEqual([levels(calls, time, [1])[0] for time in (2, 3, 7, 12, 13)], [0, 10, 50, 100, 100])

    def test_one_added_later_follows_one_that_goes_behind_the_reset(self):
        calls = [cue(1, follow=5), go(0), cue(2), stand(0), reset(), stand(0), go(0), stand(0)]
        self.assertEqual(ask(*calls)[3:], [[1, 0], [0], [0, 0], [1], [1, 1, 5]])

    def test_behind_it_all_is_as_on_a_new_stage(self):
        for seed in range(40):
            calls = Chance(seed).calls(40)
            cues = [call for call, answer in zip(calls, ask(*calls)) if call[0] == 0 and answer[0] > 0]
            later = [call for call in Chance(seed + 1000).calls(60) if call[0] > 0]
            self.assertEqual(ask(*calls, reset(), *later)[len(calls):], ask(*cues, reset(), *later)[len(cues):], seed)
            self.assertEqual(ask(*calls, reset(), *later)[len(calls) + 1:], ask(*cues, *later)[len(cues):], seed)


if __name__ == "__main__":
    unittest.main()

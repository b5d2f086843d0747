"""The call at: where a channel is, in a fade, ahead of it, behind it, and in the midst of others."""

import unittest

from tests.helper import ask, ask_last, at, cue, go, goto


def track(calls, channel, times):
    """Where the channel is at each of the times."""
    return [tuple(answer) for answer in ask(*calls, *[at(time, channel) for time in times])[len(calls):]]


class RefusalTest(unittest.TestCase):
    def test_channels_are_1_to_64(self):
        self.assertEqual(ask(at(0, 0), at(0, 1), at(0, 64), at(0, 65)), [[-1], [0, 1], [0, 1], [-1]])
        self.assertEqual(ask(at(0, 4294967295)), [[-1]])

    def test_times(self):
        self.assertEqual(ask(at(0, 1), at(1000000, 1), at(1000001, 1)), [[0, 1], [0, 1], [-1]])
        self.assertEqual(ask(cue(1), go(8), at(7, 1), at(8, 1), at(4294967295, 1))[2:], [[-1], [0, 1], [-1]])

    def test_an_earlier_time_than_the_last_asked_is_answered(self):
        calls = [cue(1, 10, moves=[1, 50]), go(0)]
        self.assertEqual(track(calls, 1, [8, 2, 100, 0]), [(40, 1), (10, 1), (50, 1), (0, 1)])


class FadeTest(unittest.TestCase):
    def test_at_first_all_is_at_0(self):
        self.assertEqual(track([cue(1, moves=[1, 50])], 1, [0, 5, 1000000]), [(0, 1)] * 3)

    def test_up(self):
        calls = [cue(1, 4, 99, moves=[1, 80]), go(3)]
        found = track(calls, 1, [3, 4, 5, 6, 7, 8, 1000000])
        self.assertEqual(found, [(0, 1), (20, 1), (40, 1), (60, 1), (80, 1), (80, 1), (80, 1)])

    def test_down(self):
        calls = [cue(1, moves=[1, 90]), cue(2, 99, 3, moves=[1, 30]), go(0), go(10)]
        self.assertEqual(track(calls, 1, [10, 11, 12, 13, 14]), [(90, 1), (70, 1), (50, 1), (30, 1), (30, 1)])

    def test_up_and_down_in_one_cue(self):
        calls = [cue(1, moves=[1, 50, 2, 50]), cue(2, 10, 20, moves=[1, 60, 2, 40]), go(0), go(0)]
        self.assertEqual(track(calls, 1, [5, 10, 20]), [(55, 1), (60, 1), (60, 1)])
        self.assertEqual(track(calls, 2, [5, 10, 20]), [(95, 2), (45, 1), (40, 1)])

    def test_in_no_time(self):
        calls = [cue(1, 0, 600, moves=[1, 90]), cue(2, 600, 0, moves=[1, 30]), go(4), go(6)]
        self.assertEqual(track(calls[:3], 1, [4, 5]), [(90, 1), (90, 1)])
        self.assertEqual(track(calls, 1, [6, 7]), [(30, 1), (30, 1)])

    def test_to_where_it_is(self):
        calls = [cue(1, 5, 7, moves=[1, 0, 2, 50]), cue(2, 5, 7, moves=[2, 50]), go(0), go(30)]
        self.assertEqual(track(calls[:3], 1, [0, 3, 9]), [(0, 1)] * 3)
        self.assertEqual(track(calls, 2, [30, 33, 99]), [(50, 1)] * 3)

    def test_the_longest_times(self):
        calls = [cue(1, 600, 0, 600, moves=[1, 100]), go(1000000 - 700)]
        self.assertEqual(track(calls, 1, [1000000 - 100, 1000000]), [(0, 1), (50, 3)])

    def test_lowest_terms(self):
        calls = [cue(1, 600, moves=[1, 100, 2, 97]), go(0)]
        self.assertEqual(track(calls, 1, [0, 1, 3, 450, 599]), [(0, 1), (1, 6), (1, 2), (75, 1), (599, 6)])
        self.assertEqual(track(calls, 2, [1, 300, 599]), [(97, 600), (97, 2), (58103, 600)])

    def test_what_isnt_moved_stays(self):
        calls = [cue(1, moves=[1, 33]), cue(2, 5, 5, 5, 5, [2, 44]), go(0), go(2)]
        self.assertEqual(track(calls, 1, [2, 7, 12, 500]), [(33, 1)] * 4)
        self.assertEqual(track(calls, 3, [2, 7, 12, 500]), [(0, 1)] * 4)


class DelayTest(unittest.TestCase):
    def test_it_begins_later(self):
        calls = [cue(1, 4, 0, 10, moves=[1, 80]), go(5)]
        self.assertEqual(track(calls, 1, [5, 14, 15, 16, 19]), [(0, 1), (0, 1), (0, 1), (20, 1), (80, 1)])

    def test_in_no_time(self):
        calls = [cue(1, 0, 0, 10, moves=[1, 80]), go(5)]
        self.assertEqual(track(calls, 1, [14, 15]), [(0, 1), (80, 1)])

    def test_until_then_a_fade_goes_on(self):
        calls = [cue(1, 10, moves=[1, 100]), cue(2, 50, 14, 5, moves=[1, 0]), go(0), go(2)]
        self.assertEqual(track(calls, 1, [2, 6, 7, 8, 21]), [(20, 1), (60, 1), (70, 1), (65, 1), (0, 1)])

    def test_up_or_down_is_by_where_it_is_when_it_begins(self):
        cues = [cue(1, 10, moves=[1, 100]), cue(2, 3, 5, 6, moves=[1, 50])]
        self.assertEqual(track([*cues, go(0), go(2)], 1, [8, 9, 10, 13]), [(80, 1), (74, 1), (68, 1), (50, 1)])
        self.assertEqual(track([*cues, go(0), go(2), at(1000, 1)], 1, [11]), [(62, 1)])
        lower = [cue(1, 10, moves=[1, 100]), cue(2, 30, 6, 4, moves=[1, 70])]
        self.assertEqual(track([*lower, go(0), go(0)], 1, [4, 5, 34]), [(40, 1), (41, 1), (70, 1)])

    def test_told_again_while_the_delay_runs(self):
        calls = [cue(1, 4, 4, 10, moves=[1, 80]), cue(2, 2, 4, 20, moves=[1, 40]), go(0), go(9)]
        self.assertEqual(track(calls, 1, [9, 10, 14, 29, 30, 31]), [(0, 1)] * 4 + [(20, 1), (40, 1)])

    def test_told_again_to_begin_sooner(self):
        calls = [cue(1, 4, 4, 50, moves=[1, 80]), cue(2, 2, 4, 5, moves=[1, 40]), go(0), go(9)]
        self.assertEqual(track(calls, 1, [14, 15, 16, 50, 52, 100]), [(0, 1), (20, 1)] + [(40, 1)] * 4)

    def test_told_again_when_it_was_to_begin(self):
        calls = [cue(1, 8, 4, 10, moves=[1, 80]), cue(2, 0, 5, 4, moves=[1, 10]), go(0), go(10)]
        found = track(calls, 1, [10, 12, 14, 15, 19, 30])
        self.assertEqual(found, [(0, 1), (20, 1), (40, 1), (34, 1), (10, 1), (10, 1)])

    def test_told_again_when_it_was_to_begin_in_no_time(self):
        calls = [cue(1, 0, 0, 10, moves=[1, 80]), cue(2, 6, 4, moves=[1, 20]), go(0), go(10)]
        self.assertEqual(track(calls, 1, [10, 11, 14]), [(80, 1), (65, 1), (20, 1)])

    def test_told_again_behind_its_begin(self):
        calls = [cue(1, 8, 4, 10, moves=[1, 80]), cue(2, 5, 0, moves=[1, 60]), go(0), go(11)]
        self.assertEqual(track(calls, 1, [11, 12, 16, 18]), [(10, 1), (20, 1), (60, 1), (60, 1)])

    def test_a_cue_that_moves_others_takes_nothing_away(self):
        calls = [cue(1, 4, 4, 10, moves=[1, 80]), cue(2, moves=[2, 40]), go(0), go(5)]
        self.assertEqual(track(calls, 1, [10, 11, 14]), [(0, 1), (20, 1), (80, 1)])


class MidstTest(unittest.TestCase):
    def test_go_in_the_midst_of_a_fade(self):
        calls = [cue(1, 7, moves=[1, 100]), cue(2, 0, 9, moves=[1, 5]), go(0), go(3)]
        found = track(calls, 1, [3, 4, 11, 12])
        self.assertEqual(found, [(300, 7), (2435, 63), (580, 63), (5, 1)])

    def test_told_again_to_the_same_level(self):
        calls = [cue(1, 10, moves=[1, 100]), cue(2, 10, moves=[1, 100]), go(0), go(5)]
        self.assertEqual(track(calls, 1, [5, 10, 14, 15]), [(50, 1), (75, 1), (95, 1), (100, 1)])

    def test_goto_in_the_midst_of_fades(self):
        cues = [cue(1, 7, 11, moves=[1, 100]), cue(2, 13, 3, moves=[1, 20, 2, 50])]
        calls = [*cues, go(0), go(3), goto(1, 4)]
        self.assertEqual(track(calls[:4], 1, [3, 4]), [(300, 7), (740, 21)])
        self.assertEqual(track(calls[:4], 2, [4]), [(50, 13)])
        self.assertEqual(track(calls, 1, [4, 5, 11]), [(740, 21), (2180, 49), (100, 1)])
        self.assertEqual(track(calls, 2, [4, 5, 15]), [(50, 13), (500, 143), (0, 1)])

    def test_an_in_time_fade_in_the_midst_jumps_from_there(self):
        calls = [cue(1, 10, moves=[1, 100]), cue(2, moves=[1, 10]), cue(3, 9, moves=[1, 100]), go(0), go(5), go(5)]
        self.assertEqual(track(calls[:5], 1, [5]), [(10, 1)])
        self.assertEqual(track(calls, 1, [5, 6]), [(10, 1), (20, 1)])

    def test_quotients_of_any_size(self):
        cues = [cue(1, 599, 597, moves=[1, 100]), cue(2, 593, 587, moves=[1, 0])]
        calls = list(cues)
        for turn in range(30):
            calls += [goto(1, 2 * turn), goto(2, 2 * turn + 1)]
        upper, lower = ask_last(*calls, at(60, 1))
        self.assertEqual(lower % 599 ** 29, 0)
        self.assertGreater(lower, 10 ** 150)
        self.assertLess(upper, 100 * lower)


if __name__ == "__main__":
    unittest.main()

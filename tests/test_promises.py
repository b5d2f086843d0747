"""The promises, on many calls by chance, and against the slow second program."""

import unittest
from fractions import Fraction
from math import gcd

from tests.helper import Chance, SlowStage, ask, ask_slowly, at, cue, go, goto, levels

CUE, GO, GOTO, AT = range(4)


def told_only(calls):
    return [call for call in calls if call[0] != AT]


def last_go(calls):
    """The time of the last go or goto that wasn't refused."""
    times = [call[-1] for call, answer in zip(calls, ask(*calls)) if call[0] in (GO, GOTO) and answer[0] > 0]
    return times[-1] if times else 0


class ByChanceTest(unittest.TestCase):
    def test_as_the_second_program(self):
        for seed in range(300):
            calls = Chance(seed).calls(45)
            self.assertEqual(ask(*calls), ask_slowly(*calls), seed)

    def test_by_chance_all_is_met(self):
        met = [answer for seed in range(50) for answer in ask(*Chance(seed).calls(45))]
        for refusal in ([-1], [-3], [-4]):
            self.assertGreater(met.count(refusal), 20)
        self.assertGreater(sum(len(answer) == 2 and answer[1] > 1 for answer in met), 50)

    def test_on_long_lists(self):
        cues = [cue(1, 599, 587, 0, 3, [1, 100, 2, 1]), cue(2, 577, 571, 1, 2, [1, 3, 2, 99]), cue(3, 13, 7, 2, 0, [1, 50])]
        calls = list(cues)
        for turn in range(120):
            calls += [goto(1 + turn % 3, 7 * turn), at(7 * turn + 5, 1), at(7 * turn + 6, 2)]
        found = ask(*calls)
        self.assertEqual(found, ask_slowly(*calls))
        self.assertTrue(all(gcd(*answer) == 1 for answer in found if len(answer) == 2))


class LookTest(unittest.TestCase):
    """Promise 1: when all is still, the look is that of the cue that has gone last."""

    def test_whatever_way_one_came(self):
        for seed in range(100):
            calls = told_only(Chance(seed).calls(25))
            # A chain of 24 cues, each 30 behind the one before, and their longest delays and fades.
            late = last_go(calls) + 24 * 30 + 30 + 30
            stage = SlowStage()
            for call in calls:
                stage.answer(call)
            gone = stage.until(late)[1]
            look = [Fraction(stage.look(gone)[channel]) for channel in range(1, 7)] if gone >= 0 else [0] * 6
            self.assertEqual(levels(calls, late, range(1, 7)), look, seed)
            self.assertEqual(levels(calls, 1000000, range(1, 7)), look, seed)

    def test_three_ways(self):
        cues = [
            cue(1, 5, 6, 7, 0, [1, 10, 2, 20]), cue(2, 9, 8, 30, 0, [1, 60, 3, 30]), cue(3, 4, 4, 1, 0, [2, 70]),
        ]
        ways = [
            [go(0), go(1), go(2)],
            [goto(3, 5)],
            [goto(3, 0), goto(1, 2), go(2), go(40)],
            [go(0), go(100), goto(1, 120), goto(2, 121), goto(3, 122)],
        ]
        for way in ways:
            self.assertEqual(levels(cues + way, 500, [1, 2, 3, 4, 64]), [60, 70, 30, 0, 0])


class EvenTest(unittest.TestCase):
    """Promise 2: never below 0 or above 100; while one fade goes on it changes evenly."""

    def test_never_beyond(self):
        for seed in range(60):
            calls = told_only(Chance(seed).calls(25))
            time = last_go(calls)
            found = [levels(calls, time + step, range(1, 6)) for step in range(0, 60, 7)]
            self.assertTrue(all(0 <= level <= 100 for row in found for level in row), seed)

    def test_the_top_and_the_ground_are_reached_and_not_passed(self):
        cues = [cue(1, 3, 3, moves=[1, 100]), cue(2, 3, 3, moves=[1, 0])]
        found = [levels([*cues, go(0)], time, [1])[0] for time in range(6)]
        self.assertEqual(found, [0, Fraction(100, 3), Fraction(200, 3), 100, 100, 100])
        found = [levels([*cues, go(0), go(9)], time, [1])[0] for time in range(9, 15)]
        self.assertEqual(found, [100, Fraction(200, 3), Fraction(100, 3), 0, 0, 0])

    def test_evenly(self):
        for length in (1, 2, 7, 30, 599, 600):
            calls = [cue(1, 3, moves=[1, 100]), cue(2, 50, length, moves=[1, 1]), go(0), go(1)]
            times = sorted({0, 1, length // 3, length // 2, length - 1, length})
            found = [levels(calls, 1 + time, [1])[0] for time in times]
            start = Fraction(100, 3)
            self.assertEqual(found, [start + (1 - start) * Fraction(time, length) for time in times])


class GoesOnTest(unittest.TestCase):
    """Promise 3: what a cue doesn't move goes on; nothing jumps but what fades in no time."""

    def test_others_go_on(self):
        first = cue(1, 30, 30, 4, 0, [1, 90, 2, 70])
        for second in (cue(2, moves=[3, 50]), cue(2, 9, 9, 9, 0, [3, 50, 64, 1]), cue(2)):
            for time in (0, 3, 4, 15, 60):
                for later in (time, time + 5, time + 40):
                    without = levels([first, second, go(0)], later, [1, 2])
                    self.assertEqual(levels([first, second, go(0), go(time)], later, [1, 2]), without)

    def test_nothing_jumps_when_a_cue_goes(self):
        cues = [cue(1, 7, 9, 0, 0, [1, 90, 2, 70]), cue(2, 8, 5, 0, 0, [1, 20, 2, 95]), cue(3, 1, 1, 3, 0, [1, 0, 2, 0])]
        for time in range(4, 12):
            before = [*cues, go(0), go(3)]
            for call in (go(time), goto(1, time), goto(3, time)):
                self.assertEqual(levels([*before, call], time, [1, 2]), levels(before, time, [1, 2]))

    def test_nothing_jumps_as_time_passes(self):
        # Up and down are 10 and more here, so no channel may change by more than 10 in one step.
        cues = [
            cue(1, 10, 12, 3, 4, [1, 100, 2, 50]), cue(2, 11, 10, 1, 5, [1, 0, 3, 100]), cue(3, 13, 15, 6, 0, [2, 0, 3, 7]),
        ]
        for calls in ([go(0)], [go(0), go(2)], [go(0), goto(3, 6)], [goto(3, 0), goto(1, 5), go(8)]):
            told = [*cues, *calls]
            begin = last_go(told)
            rows = [levels(told, time, [1, 2, 3]) for time in range(begin, begin + 60)]
            for row, behind in zip(rows, rows[1:]):
                self.assertTrue(all(abs(one - other) <= 10 for one, other in zip(row, behind)))

    def test_in_no_time_it_jumps(self):
        calls = [cue(1, 0, 9, 5, 0, [1, 100]), go(0)]
        self.assertEqual([levels(calls, time, [1])[0] for time in (4, 5)], [0, 100])


class FollowsTest(unittest.TestCase):
    """Promise 4: a cue follows just if nothing goes before."""

    def test_just_if_nothing_goes_before(self):
        cues = [cue(1, follow=6, moves=[1, 10]), cue(2, moves=[1, 20]), cue(3, moves=[1, 30])]
        for time in range(12):
            found = ask(*cues, go(0), go(time), at(time, 1), at(50, 1))[4:]
            self.assertEqual(found, [[2], [20, 1], [20, 1]] if time < 6 else [[3], [30, 1], [30, 1]])

    def test_a_goto_before(self):
        cues = [cue(1, follow=6, moves=[1, 10]), cue(2, 0, 0, 2, 0, [1, 20]), cue(3, 0, 0, 90, 0, [1, 30])]
        for time in range(12):
            found = ask(*cues, go(0), goto(3, time), at(time, 1), at(50, 1), at(200, 1))[5:]
            self.assertEqual(found, [[20 if time >= 8 else 10, 1]] * 2 + [[30, 1]], time)


class NothingChangesTest(unittest.TestCase):
    """Promise 5: what's refused, what only asks, changes nothing."""

    def refused(self, calls):
        """Calls that are refused behind these, whatever they are."""
        time = last_go(calls)
        early = [go(time - 1), goto(1, time - 1), at(time - 1, 1)] if time else []
        return early + [
            cue(0), cue(10000), cue(9998, 601), cue(9998, moves=[1]), cue(9998, moves=[65, 1]), cue(9998, moves=[1, 101]),
            go(1000001), goto(1, 1000001), goto(9999, time + 3), at(1000001, 1), at(time, 0), at(time, 65),
        ]

    def test_refused_and_asked_among_others(self):
        for seed in range(40):
            calls = told_only(Chance(seed).calls(20))
            expected = ask(*calls)
            mixed = []
            places = []
            for place, call in enumerate(calls):
                between = self.refused(calls[:place])
                self.assertTrue(all(answer[0] < 0 for answer in ask(*calls[:place], *between)[place:]))
                time = last_go(calls[:place])
                mixed += between + [at(time, 1), at(time + 9, 2), at(1000000, 3)]
                places.append(len(mixed))
                mixed.append(call)
            end = last_go(calls)
            ends = [at(end + step, channel) for step in (0, 3, 9, 40) for channel in range(1, 6)]
            found = ask(*mixed, *ends)
            self.assertEqual([found[place] for place in places], expected)
            self.assertEqual(found[len(mixed):], ask(*calls, *ends)[len(calls):])

    def test_a_go_with_none_behind_keeps_what_follows_open(self):
        cues = [cue(1, follow=5, moves=[1, 10]), cue(2, follow=5, moves=[1, 20])]
        found = ask(*cues, go(0), go(100), cue(3, moves=[1, 30]), at(9, 1), at(10, 1), go(7))
        self.assertEqual(found[3:], [[-3], [3], [20, 1], [30, 1], [3]])


if __name__ == "__main__":
    unittest.main()

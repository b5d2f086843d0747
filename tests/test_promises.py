"""The promises, on many calls by chance, and against the slow second program."""

import unittest
from fractions import Fraction
from math import gcd

from tests.helper import Chance, ask, ask_last, ask_slowly, at, cue, go, goto, levels, reset, stand, still, when

CUE, GO, GOTO, AT, STAND, STILL, WHEN, RESET = range(8)


def told_only(calls):
    return [call for call in calls if call[0] in (CUE, GO, GOTO, RESET)]


def look_of(calls, number):
    """The look of the cue of this number, as a list of 64; of no cue (0), all at 0."""
    look = [0] * 64
    for call, answer in zip(calls, ask(*calls)):
        if call[0] == CUE and answer[0] > 0 and call[1] <= number:
            for channel, level in zip(call[7::2], call[8::2]):
                look[channel - 1] = level
    return look


def twice_as_slow(calls):
    """The same calls, with all times doubled: what was half-way between two times is at a whole one."""
    slower = []
    for call in calls:
        if call[0] == CUE:
            slower.append(call[:2] + [2 * time for time in call[2:6]] + call[6:])
        elif call[0] in (GO, GOTO):
            slower.append(call[:-1] + [2 * call[-1]])
        else:
            slower.append(call)
    return slower


def last_go(calls):
    """The time of the last go or goto that wasn't refused."""
    time = 0
    for call, answer in zip(calls, ask(*calls)):
        if call[0] in (GO, GOTO) and answer[0] > 0:
            time = call[-1]
        if call[0] == RESET:
            time = 0
    return time


class ByChanceTest(unittest.TestCase):
    def test_as_the_second_program(self):
        for seed in range(300):
            calls = Chance(seed).calls(45)
            self.assertEqual(ask(*calls), ask_slowly(*calls), seed)

    def test_by_chance_all_is_met(self):
        met = [[] for kind in range(8)]
        for seed in range(100):
            calls = Chance(seed).calls(45)
            for call, answer in zip(calls, ask(*calls)):
                met[call[0]].append(answer)
        for kind, refusals in ((GO, [-1, -3]), (GOTO, [-1, -4]), (AT, [-1]), (STAND, [-1]), (WHEN, [-1, -3])):
            for refusal in refusals:
                self.assertGreater(met[kind].count([refusal]), 5, (kind, refusal))
            self.assertGreater(sum(answer[0] >= 0 for answer in met[kind]), 50, kind)
        self.assertGreater(sum(len(answer) == 2 and answer[1] > 1 for answer in met[AT]), 50)
        self.assertGreater(sum(len(answer) == 3 for answer in met[STAND]), 50)
        self.assertGreater(len(met[RESET]), 20)
        self.assertGreater(len({answer[0] for answer in met[STILL]}), 50)

    def test_on_long_lists(self):
        calls = [
            cue(1, 599, 587, 0, 3, [1, 100, 2, 1]), cue(2, 577, 571, 1, 2, [1, 3, 2, 99]), cue(3, 13, 7, 2, 0, [1, 50]),
        ]
        for turn in range(120):
            calls += [goto(1 + turn % 3, 7 * turn), at(7 * turn + 5, 1), at(7 * turn + 6, 2)]
            if turn in (20, 60, 118):
                calls += [still(), stand(7 * turn + 4), when(7 * turn + 1, 1, 50), when(7 * turn + 1, 2, 50)]
        found = ask(*calls)
        self.assertEqual(found, ask_slowly(*calls))
        self.assertTrue(all(gcd(*answer) == 1 for call, answer in zip(calls, found) if call[0] == AT))

    def test_a_hair_beside_a_level(self):
        # Turn by turn it comes nearer to 50 from below, and never gets there.
        calls = [cue(1, moves=[1, 49]), cue(2, 2, moves=[1, 50]), go(0)]
        for turn in range(60):
            calls.append(goto(2, turn))
        upper, lower = ask_last(*calls, at(59, 1))
        self.assertEqual((upper, lower), (50 * 2 ** 59 - 1, 2 ** 59))
        self.assertEqual(ask(*calls, when(59, 1, 50), when(59, 1, 49), still())[-3:], [[61], [-3], [61]])


class LookTest(unittest.TestCase):
    """Promise 1: when all is still, the look is that of the cue that has gone last."""

    def test_whatever_way_one_came(self):
        for seed in range(100):
            calls = told_only(Chance(seed).calls(25))
            time = ask_last(*calls, still())[0]
            gone = ask_last(*calls, stand(time))
            self.assertEqual(gone[1:], [0], seed)
            look = look_of(calls, gone[0])
            for later in (time, time + 1, 1000000):
                self.assertEqual(levels(calls, later, range(1, 65)), look, seed)

    def test_channels_that_were_never_moved(self):
        cues = [cue(1, 5, 6, 7, 2, [2, 10, 63, 20]), cue(2, 9, 8, 30, 0, [2, 60, 4, 30])]
        for way in ([go(3)], [goto(2, 3)], [goto(2, 3), goto(1, 4)]):
            for time in (4, 20, ask_last(*cues, *way, still())[0], 1000000):
                self.assertEqual(levels(cues + way, time, [1, 3, 5, 62, 64]), [0] * 5)
            self.assertEqual(ask(*cues, *way, when(4, 64, 0), when(4, 64, 1), when(4, 1, 100))[-3:], [[4], [-3], [-3]])

    def test_three_ways(self):
        cues = [
            cue(1, 5, 6, 7, 0, [1, 10, 2, 20]), cue(2, 9, 8, 30, 0, [1, 60, 3, 30]), cue(3, 4, 4, 1, 0, [2, 70]),
        ]
        ways = [
            [go(0), go(1), go(2)],
            [goto(3, 5)],
            [goto(3, 0), goto(1, 2), go(2), go(40)],
            [go(0), go(100), goto(1, 120), goto(2, 121), goto(3, 122)],
        ]
        for way in ways:
            time = ask_last(*cues, *way, still())[0]
            self.assertEqual(levels(cues + way, time, [1, 2, 3, 4, 64]), [60, 70, 30, 0, 0])


class EvenTest(unittest.TestCase):
    """Promise 2: never below 0 or above 100; while one fade goes on it changes evenly."""

    def test_never_beyond(self):
        for seed in range(60):
            calls = told_only(Chance(seed).calls(25))
            time = last_go(calls)
            found = [levels(calls, time + step, range(1, 6)) for step in range(0, 60, 7)]
            self.assertTrue(all(0 <= level <= 100 for row in found for level in row), seed)

    def test_the_top_and_the_ground_are_reached_and_not_passed(self):
        cues = [cue(1, 3, 3, moves=[1, 100]), cue(2, 3, 3, moves=[1, 0])]
        found = [levels([*cues, go(0)], time, [1])[0] for time in range(6)]
        self.assertEqual(found, [0, Fraction(100, 3), Fraction(200, 3), 100, 100, 100])
        found = [levels([*cues, go(0), go(9)], time, [1])[0] for time in range(9, 15)]
        self.assertEqual(found, [100, Fraction(200, 3), Fraction(100, 3), 0, 0, 0])

    def test_evenly(self):
        for length in (1, 2, 7, 30, 599, 600):
            calls = [cue(1, 3, moves=[1, 100]), cue(2, 50, length, moves=[1, 1]), go(0), go(1)]
            times = sorted({0, 1, length // 3, length // 2, length - 1, length})
            found = [levels(calls, 1 + time, [1])[0] for time in times]
            start = Fraction(100, 3)
            self.assertEqual(found, [start + (1 - start) * Fraction(time, length) for time in times])


class GoesOnTest(unittest.TestCase):
    """Promise 3: what a cue doesn't move goes on; nothing jumps but what fades in no time."""

    def test_others_go_on(self):
        first = cue(1, 30, 30, 4, 0, [1, 90, 2, 70])
        for second in (cue(2, moves=[3, 50]), cue(2, 9, 9, 9, 0, [3, 50, 64, 1]), cue(2)):
            for time in (0, 3, 4, 15, 60):
                for later in (time, time + 5, time + 40):
                    without = levels([first, second, go(0)], later, [1, 2])
                    self.assertEqual(levels([first, second, go(0), go(time)], later, [1, 2]), without)

    def test_nothing_jumps_when_a_cue_goes(self):
        cues = [
            cue(1, 7, 9, 0, 0, [1, 90, 2, 70]), cue(2, 8, 5, 0, 0, [1, 20, 2, 95]), cue(3, 1, 1, 3, 0, [1, 0, 2, 0]),
        ]
        for time in range(4, 12):
            before = [*cues, go(0), go(3)]
            for call in (go(time), goto(1, time), goto(3, time)):
                self.assertEqual(levels([*before, call], time, [1, 2]), levels(before, time, [1, 2]))

    def test_nothing_jumps_as_time_passes(self):
        # Up and down are 10 and more here, so no channel may change by more than 10 in one step.
        cues = [
            cue(1, 10, 12, 3, 4, [1, 100, 2, 50]), cue(2, 11, 10, 1, 5, [1, 0, 3, 100]),
            cue(3, 13, 15, 6, 0, [2, 0, 3, 7]),
        ]
        for calls in ([go(0)], [go(0), go(2)], [go(0), goto(3, 6)], [goto(3, 0), goto(1, 5), go(8)]):
            told = [*cues, *calls]
            begin = last_go(told)
            rows = [levels(told, time, [1, 2, 3]) for time in range(begin, begin + 60)]
            for row, behind in zip(rows, rows[1:]):
                self.assertTrue(all(abs(one - other) <= 10 for one, other in zip(row, behind)))

    def test_in_no_time_it_jumps(self):
        calls = [cue(1, 0, 9, 5, 0, [1, 100]), go(0)]
        self.assertEqual([levels(calls, time, [1])[0] for time in (4, 5)], [0, 100])


class FollowsTest(unittest.TestCase):
    """Promise 4: a cue follows just if nothing goes before."""

    def test_what_stand_foretells_comes_if_nobody_does_anything(self):
        for seed in range(60):
            calls = told_only(Chance(seed).calls(20))
            time = last_go(calls)
            gone = ask_last(*calls, stand(time))
            for turn in range(30):
                if len(gone) == 2:
                    break
                due = gone[2]
                self.assertEqual(ask_last(*calls, stand(due - 1)), gone, seed)
                behind = ask_last(*calls, stand(due))
                self.assertGreater(behind[0], gone[0], seed)
                gone = behind
            self.assertEqual(ask_last(*calls, stand(1000000)), gone, seed)

    def test_stand_when_something_goes_before(self):
        cues = [cue(1, follow=6), cue(2), cue(3)]
        for time in range(6):
            self.assertEqual(ask(*cues, go(0), go(time), stand(time), stand(6))[4:], [[2], [2, 0], [2, 0]])
            self.assertEqual(ask(*cues, go(0), goto(3, time), stand(time), stand(6))[4:], [[3], [3, 0], [3, 0]])
            self.assertEqual(ask(*cues, go(0), reset(), stand(time), stand(6))[4:], [[0], [0, 0], [0, 0]])
        self.assertEqual(ask(*cues, go(0), go(6), stand(6))[4:], [[3], [3, 0]])

    def test_just_if_nothing_goes_before(self):
        cues = [cue(1, follow=6, moves=[1, 10]), cue(2, moves=[1, 20]), cue(3, moves=[1, 30])]
        for time in range(12):
            found = ask(*cues, go(0), go(time), at(time, 1), at(50, 1))[4:]
            self.assertEqual(found, [[2], [20, 1], [20, 1]] if time < 6 else [[3], [30, 1], [30, 1]])

    def test_a_goto_before(self):
        cues = [cue(1, follow=6, moves=[1, 10]), cue(2, 0, 0, 2, 0, [1, 20]), cue(3, 0, 0, 90, 0, [1, 30])]
        for time in range(12):
            found = ask(*cues, go(0), goto(3, time), at(time, 1), at(50, 1), at(200, 1))[5:]
            self.assertEqual(found, [[20 if time >= 8 else 10, 1]] * 2 + [[30, 1]], time)


class LeastStillTest(unittest.TestCase):
    """Promise 5: still tells the least such time."""

    def test_before_it_all_isnt_still_and_from_it_on_it_is(self):
        met = 0
        for seed in range(120):
            calls = told_only(Chance(seed).calls(20))
            time = ask_last(*calls, still())[0]
            slower = twice_as_slow(calls)
            self.assertEqual(ask_last(*slower, still()), [2 * time], seed)
            rows = [levels(slower, 2 * time + step, range(1, 6)) for step in (0, 1, 2, 3, 9, 500)]
            self.assertTrue(all(row == rows[0] for row in rows), seed)
            self.assertEqual(ask_last(*slower, stand(2 * time))[1:], [0], seed)
            if time > last_go(calls):
                met += 1
                before = [levels(slower, 2 * time - step, range(1, 6)) for step in (2, 1)]
                goes_then = ask_last(*calls, stand(time - 1))[1:] == [1, time]
                self.assertTrue(goes_then or before != [rows[0], rows[0]], seed)
        self.assertGreater(met, 50)

    def test_not_before_the_last_go(self):
        for seed in range(60):
            calls = told_only(Chance(seed).calls(20))
            for end in range(len(calls)):
                self.assertGreaterEqual(ask_last(*calls[:end], still())[0], last_go(calls[:end]), seed)

    def test_others_that_are_still_sooner(self):
        cues = [cue(1, 9, 3, 0, 0, [1, 10, 2, 20, 64, 1]), cue(2, 4, 5, 1, 0, [2, 0, 64, 1])]
        found = ask(*cues, go(0), still(), go(2), still(), goto(1, 5), still())[2:]
        self.assertEqual(found, [[1], [9], [2], [9], [1], [14]])


class NothingChangesTest(unittest.TestCase):
    """Promise 5: what's refused, what only asks, changes nothing."""

    def refused(self, calls):
        """Calls that are refused behind these, whatever they are."""
        time = last_go(calls)
        early = [go(time - 1), goto(1, time - 1), at(time - 1, 1), stand(time - 1), when(time - 1, 1, 0)]
        return (early if time else []) + [
            cue(0), cue(10000), cue(9998, 601), cue(9998, moves=[1]), cue(9998, moves=[65, 1]),
            cue(9998, moves=[1, 101]),
            go(1000001), goto(1, 1000001), goto(9999, time + 3), at(1000001, 1), at(time, 0), at(time, 65),
            stand(1000001), when(1000001, 1, 0), when(time, 0, 0), when(time, 65, 0), when(time, 1, 101),
            when(1000000, 64, 1),
        ]

    def asked(self, calls):
        """Calls that only ask behind these."""
        time = last_go(calls)
        return [
            at(time, 1), at(time + 9, 2), at(1000000, 3), stand(time), stand(time + 9), stand(1000000), still(),
            when(time, 1, 50), when(time + 3, 2, 100), when(1000000, 3, 0), still(),
        ]

    def test_refused_and_asked_among_others(self):
        for seed in range(40):
            calls = told_only(Chance(seed).calls(20))
            expected = ask(*calls)
            mixed = []
            places = []
            for place, call in enumerate(calls):
                between = self.refused(calls[:place])
                self.assertTrue(all(answer[0] < 0 for answer in ask(*calls[:place], *between)[place:]))
                mixed += between + self.asked(calls[:place])
                places.append(len(mixed))
                mixed.append(call)
            end = last_go(calls)
            ends = [at(end + step, channel) for step in (0, 3, 9, 40) for channel in range(1, 6)]
            ends += [stand(end), stand(1000000), still(), *[when(end, channel, 50) for channel in range(1, 6)]]
            found = ask(*mixed, *ends)
            self.assertEqual([found[place] for place in places], expected)
            self.assertEqual(found[len(mixed):], ask(*calls, *ends)[len(calls):])

    def test_a_go_with_none_behind_keeps_what_follows_open(self):
        cues = [cue(1, follow=5, moves=[1, 10]), cue(2, follow=5, moves=[1, 20])]
        found = ask(*cues, go(0), go(100), cue(3, moves=[1, 30]), at(9, 1), at(10, 1), go(7))
        self.assertEqual(found[3:], [[-3], [3], [20, 1], [30, 1], [3]])


if __name__ == "__main__":
    unittest.main()

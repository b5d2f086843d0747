"""The call when: the first whole time at which a channel has come to a level."""

import unittest

from tests.helper import ask, ask_last, at, cue, go, goto, levels, reset, stand, still, when

UP = [cue(1, 7, moves=[1, 100]), go(3)]
DOWN = [cue(1, moves=[1, 100]), cue(2, 90, 9, moves=[1, 10]), go(0), go(3)]


def whens(calls, *asked):
    """The answers to calls when behind the others; one number each."""
    found = ask(*calls, *[when(*each) for each in asked])[len(calls):]
    assert all(len(answer) == 1 for answer in found)
    return [answer[0] for answer in found]


class WhenTest(unittest.TestCase):
    def test_at_the_level_already(self):
        self.assertEqual(whens([], (0, 1, 0), (7, 64, 0), (1000000, 5, 0)), [0, 7, 1000000])
        self.assertEqual(whens([cue(1, moves=[1, 40]), go(3)], (3, 1, 40), (50, 1, 40), (3, 2, 0)), [3, 50, 3])
        self.assertEqual(whens([cue(1, 10, moves=[1, 100]), go(3)], (3, 1, 0), (8, 1, 50), (13, 1, 100)), [3, 8, 13])

    def test_at_the_level_it_may_leave_it(self):
        calls = [cue(1, 4, 0, 2, 5, [1, 80]), cue(2, 9, 9, moves=[1, 0]), go(0)]
        self.assertEqual(whens(calls, (0, 1, 0), (2, 1, 0), (3, 1, 20), (4, 1, 40), (5, 1, 60)), [0, 2, 3, 4, 5])

    def test_reached_at_a_whole_time(self):
        calls = [cue(1, 10, moves=[1, 100]), go(3)]
        self.assertEqual(whens(calls, (3, 1, 10), (3, 1, 50), (3, 1, 90), (3, 1, 100)), [4, 8, 12, 13])
        self.assertEqual(whens(calls, (7, 1, 50), (12, 1, 100)), [8, 13])

    def test_reached_between_two_whole_times(self):
        # It's at 100 / 7, 200 / 7 .. behind 1, 2 ..: 14.3, 28.6, 42.9, 57.1, 71.4, 85.7, 100.
        asked = [(3, 1, level) for level in (1, 14, 15, 28, 29, 43, 57, 58, 86, 99, 100)]
        self.assertEqual(whens(UP, *asked), [4, 4, 5, 5, 6, 7, 7, 8, 10, 10, 10])
        self.assertEqual(whens(UP, (6, 1, 43), (6, 1, 57), (9, 1, 86)), [7, 7, 10])

    def test_from_above(self):
        # It's at 100, 90 .. 10 at 3, 4 .. 12.
        asked = [(3, 1, level) for level in (100, 99, 91, 90, 89, 15, 11, 10)]
        self.assertEqual(whens(DOWN, *asked), [3, 4, 4, 4, 5, 12, 12, 12])
        self.assertEqual(whens(DOWN, (11, 1, 20), (11, 1, 19), (12, 1, 10)), [11, 12, 12])
        calls = [cue(1, moves=[1, 100]), cue(2, 0, 7, moves=[1, 0]), go(0), go(0)]
        asked = [(0, 1, level) for level in (99, 86, 85, 72, 71, 1, 0)]
        self.assertEqual(whens(calls, *asked), [1, 1, 2, 2, 3, 7, 7])

    def test_never(self):
        self.assertEqual(whens([], (0, 1, 1), (1000000, 64, 100)), [-3, -3])
        self.assertEqual(whens([cue(1, 0, 0, 0, 0, [1, 50])], (0, 1, 50)), [-3])
        self.assertEqual(whens([cue(1, 5, moves=[1, 50]), go(0)], (0, 1, 51), (0, 2, 1)), [-3, -3])
        self.assertEqual(whens(DOWN, (3, 1, 9), (3, 1, 0)), [-3, -3])

    def test_it_goes_away_from_the_level(self):
        self.assertEqual(whens(UP, (5, 1, 28), (5, 1, 29)), [-3, 6])
        self.assertEqual(whens(DOWN, (4, 1, 91), (4, 1, 100)), [-3, -3])

    def test_a_time_behind_all_that_is_still(self):
        self.assertEqual(whens(UP, (10, 1, 100), (500, 1, 100), (500, 1, 99), (10, 1, 0)), [10, 500, -3, -3])
        self.assertEqual(whens(DOWN, (1000000, 1, 10), (1000000, 1, 9), (1000000, 1, 11)), [1000000, -3, -3])

    def test_it_may_be_above_the_last_time(self):
        calls = [cue(1, 600, 0, 500, 400, [1, 100]), cue(2), go(999999)]
        self.assertEqual(whens(calls, (1000000, 1, 100), (1000000, 1, 1)), [1001099, 1000505])

    def test_a_long_fade_in_small_steps(self):
        calls = [cue(1, 599, moves=[1, 1]), cue(2, 600, 600, moves=[1, 0]), go(0), go(598)]
        self.assertEqual(whens(calls[:3], (0, 1, 1)), [599])
        self.assertEqual(whens(calls, (598, 1, 1), (598, 1, 0)), [-3, 1198])


class DelayTest(unittest.TestCase):
    def test_a_fade_that_waits(self):
        calls = [cue(1, 10, 0, 20, moves=[1, 100]), go(3)]
        self.assertEqual(whens(calls, (3, 1, 1), (23, 1, 50), (3, 1, 100), (3, 1, 0)), [24, 28, 33, 3])

    def test_ahead_of_it_or_behind_it(self):
        # It rises by 10 up to 80, and falls by 20 from there on.
        calls = [cue(1, 10, moves=[1, 100]), cue(2, 0, 4, 6, moves=[1, 0]), go(0), go(2)]
        asked = [(2, 1, 79), (2, 1, 80), (2, 1, 81), (8, 1, 79), (9, 1, 80), (9, 1, 41)]
        self.assertEqual(whens(calls, *asked), [8, 8, -3, 9, -3, 10])

    def test_one_that_doesnt_begin_any_more(self):
        calls = [cue(1, 10, 0, 9, moves=[1, 100]), cue(2, moves=[1, 20]), go(0), go(8)]
        self.assertEqual(whens(calls[:3], (0, 1, 50)), [14])
        self.assertEqual(whens(calls, (8, 1, 50), (8, 1, 20)), [-3, 8])


class NoTimeTest(unittest.TestCase):
    def test_passed_by_in_no_time(self):
        calls = [cue(1, 0, 0, 4, 9, [1, 100]), cue(2, 0, 0, 4, 9, [1, 10]), go(2)]
        self.assertEqual(whens(calls, (2, 1, 1), (2, 1, 50), (2, 1, 100)), [6, 6, 6])
        self.assertEqual(whens(calls, (6, 1, 50), (6, 1, 10), (14, 1, 99), (15, 1, 50)), [15, 15, 15, -3])
        self.assertEqual(whens(calls, (6, 1, 9), (15, 1, 11), (2, 1, 0)), [-3, -3, 2])

    def test_passed_by_in_no_time_in_the_midst_of_a_fade(self):
        calls = [cue(1, 100, follow=10, moves=[1, 100]), cue(2, moves=[1, 60]), go(0)]
        self.assertEqual(whens(calls, (0, 1, 9), (0, 1, 11), (0, 1, 60), (0, 1, 61)), [9, 10, 10, -3])

    def test_there_and_back_at_one_time(self):
        # At 5 the first cue's fade begins and is at 100; the second sets it to 20 then.
        calls = [cue(1, 0, 0, 5, 5, [1, 100]), cue(2, 0, 0, 0, 0, [1, 20]), go(0)]
        self.assertEqual(whens(calls, (0, 1, 20), (0, 1, 21), (0, 1, 100), (0, 1, 5)), [5, -3, -3, 5])
        calls = [cue(1, 0, 0, 5, 5, [1, 100]), cue(2, 0, 8, 0, 0, [1, 20]), go(0)]
        self.assertEqual(whens(calls, (0, 1, 20), (0, 1, 100), (5, 1, 20)), [5, 5, 13])

    def test_beyond_it_between_two_whole_times_alone(self):
        # It would be at 50 at 1, but is set back to 0 then; at no whole time it's beyond 0.
        calls = [cue(1, 2, follow=1, moves=[1, 100]), cue(2, moves=[1, 0]), go(0)]
        self.assertEqual(whens(calls, (0, 1, 30), (0, 1, 50), (0, 1, 0), (1, 1, 0)), [-3, -3, 0, 1])


class TurnTest(unittest.TestCase):
    def test_it_turns_round_before_it_gets_there(self):
        calls = [cue(1, 10, follow=4, moves=[1, 100]), cue(2, 0, 8, moves=[1, 0]), go(0)]
        self.assertEqual(whens(calls, (0, 1, 41), (0, 1, 40), (0, 1, 39)), [-3, 4, 4])
        self.assertEqual(whens(calls, (4, 1, 41), (4, 1, 40), (4, 1, 39), (5, 1, 0)), [-3, 4, 5, 12])

    def test_it_turns_round_and_comes_again(self):
        # 0, 10 .. 40 at 4; 35, 30 .. 20 at 8; 30, 40 .. from there on.
        cues = [cue(1, 10, follow=4, moves=[1, 100]), cue(2, 0, 8, follow=4, moves=[1, 0]), cue(3, 8, moves=[1, 100])]
        calls = [*cues, go(0)]
        self.assertEqual(whens(calls, (0, 1, 41), (0, 1, 40), (3, 1, 40), (5, 1, 40)), [11, 4, 4, 10])
        self.assertEqual(whens(calls, (2, 1, 19), (7, 1, 21), (7, 1, 20), (7, 1, 19)), [-3, 8, 8, -3])

    def test_the_side_is_that_at_the_time_told(self):
        calls = [cue(1, 4, follow=6, moves=[1, 80]), cue(2, 0, 4, moves=[1, 40]), go(0)]
        self.assertEqual(whens(calls, (0, 1, 50), (2, 1, 50), (3, 1, 50), (6, 1, 50), (9, 1, 50)), [3, 3, 9, 9, 9])
        self.assertEqual(whens(calls, (10, 1, 50), (9, 1, 49)), [-3, 10])

    def test_cut_short_at_just_that_level(self):
        calls = [cue(1, 10, follow=5, moves=[1, 100]), cue(2, 9, 9, moves=[1, 50]), go(0)]
        self.assertEqual(whens(calls, (0, 1, 50), (0, 1, 51), (4, 1, 49)), [5, -3, 5])


class FollowTest(unittest.TestCase):
    def test_only_behind_a_follow(self):
        calls = [cue(1, 4, follow=10, moves=[1, 40]), cue(2, 10, moves=[1, 90, 2, 30]), go(0)]
        self.assertEqual(whens(calls, (0, 1, 40), (0, 1, 41), (0, 1, 65), (0, 1, 90)), [4, 11, 15, 20])
        self.assertEqual(whens(calls, (0, 2, 3), (7, 2, 4), (0, 2, 30), (0, 2, 31), (0, 3, 1)), [11, 12, 20, -3, -3])

    def test_only_behind_several(self):
        cues = [cue(number, 2, 2, 1, 5, [number, 50, 9, 10 * number]) for number in range(1, 9)]
        calls = [*cues, go(100)]
        self.assertEqual(whens(calls, *[(100, number, 26) for number in range(1, 9)]), list(range(103, 143, 5)))
        self.assertEqual(whens(calls, *[(100, 9, 10 * number) for number in range(1, 9)]), list(range(103, 143, 5)))
        asked = [(100, 9, 71), (100, 9, 75), (139, 9, 80), (100, 9, 81)]
        self.assertEqual(whens(calls, *asked), [137, 137, 139, -3])

    def test_a_follow_that_doesnt_move_the_channel(self):
        calls = [cue(1, 20, follow=5, moves=[1, 100]), cue(2, follow=5, moves=[2, 7]), cue(3), go(0)]
        self.assertEqual(whens(calls, (0, 1, 60), (0, 2, 7)), [12, 5])

    def test_one_that_doesnt_follow(self):
        self.assertEqual(whens([cue(1, follow=5), cue(2, moves=[1, 9]), go(0), go(4)], (4, 1, 9)), [4])
        self.assertEqual(whens([cue(1, follow=5), cue(2, 9, moves=[1, 9]), go(0), goto(1, 4)], (4, 1, 1)), [10])
        self.assertEqual(whens([cue(1, follow=5), go(0), cue(2, moves=[1, 9])], (0, 1, 9)), [-3])
        self.assertEqual(whens([cue(1, follow=5), cue(2, follow=3), go(0), cue(3, moves=[1, 9])], (0, 1, 9)), [8])


class RefusedTest(unittest.TestCase):
    def test_a_time_before_the_last_go_that_was_told(self):
        self.assertEqual(whens(UP, (2, 1, 0), (0, 1, 50), (3, 1, 0)), [-1, -1, 3])

    def test_of_those_that_followed_nothing_is_asked(self):
        calls = [cue(1, follow=5, moves=[1, 10]), cue(2, follow=5, moves=[1, 20]), go(3), at(90, 1)]
        self.assertEqual(whens(calls, (4, 1, 10), (4, 1, 20)), [4, 8])

    def test_a_time_above_1000000(self):
        self.assertEqual(whens([], (1000001, 1, 0), (4294967295, 1, 0), (1000000, 1, 0)), [-1, -1, 1000000])

    def test_no_such_channel(self):
        for channel in (0, 65, 100, 4294967295):
            self.assertEqual(whens(UP, (3, channel, 0), (3, channel, 100)), [-1, -1])
        self.assertEqual(whens(UP, (3, 64, 0)), [3])

    def test_no_such_level(self):
        self.assertEqual(whens(UP, (3, 1, 101), (90, 1, 101), (3, 1, 4294967295), (90, 1, 100)), [-1, -1, -1, 90])

    def test_that_is_looked_at_first(self):
        # Each would be a never, too.
        self.assertEqual(whens(UP, (2, 2, 50), (3, 65, 50), (3, 2, 101), (3, 2, 50)), [-1, -1, -1, -3])

    def test_it_changes_nothing(self):
        calls = [*DOWN[:3], still(), stand(2), at(2, 1), go(3), still(), at(8, 1), reset(), at(0, 1)]
        mixed = [each for call in calls for each in (when(0, 1, 30), when(90, 1, 3), call, when(5, 65, 101))]
        self.assertEqual(ask(*mixed)[2::4], ask(*calls))

    def test_a_time_that_is_only_asked_isnt_the_last_go(self):
        self.assertEqual(ask(*DOWN[:3], when(900, 1, 1), go(3), at(4, 1))[3:], [[-3], [2], [90, 1]])


class AgainstAtTest(unittest.TestCase):
    def test_it_is_the_first_time_at_which_at_tells_so(self):
        calls = [
            cue(1, 13, follow=5, moves=[1, 97]), cue(2, 7, 11, 3, 8, [1, 2]), cue(3, 9, 5, 2, 6, [1, 71]),
            cue(4, 4, 3, 5, 0, [1, 33]), go(0),
        ]
        where = [levels(calls, time, [1])[0] for time in range(60)]
        for time in range(0, 40, 3):
            for level in range(0, 101, 3):
                rises = where[time] < level
                beyond = [now for now in range(time, 60) if (where[now] >= level if rises else where[now] <= level)]
                self.assertEqual(ask_last(*calls, when(time, 1, level)), [beyond[0] if beyond else -3])


if __name__ == "__main__":
    unittest.main()

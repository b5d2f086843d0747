"""The call still: the first time from which on no channel changes and no cue goes."""

import unittest

from tests.helper import ask, ask_last, at, cue, go, goto, levels, reset, stand, still


class StillCase(unittest.TestCase):
    def holds(self, time, *calls):
        self.assertEqual(ask_last(*calls, still()), [time])


class StillTest(StillCase):
    def test_nothing_ever_went(self):
        self.holds(0)
        self.holds(0, cue(1, 50, 50, 50, 50, [1, 100]), cue(2))
        self.holds(0, cue(1, 50, 50, 50, 50, [1, 100]), at(90, 1), go(1000001), goto(2, 40))

    def test_a_cue_that_moves_nothing(self):
        self.holds(7, cue(1, 50, 50, 50), go(7))
        self.holds(7, cue(1, 50, 50, 50), goto(1, 7))

    def test_a_fade_that_goes_on(self):
        self.holds(13, cue(1, 10, 90, moves=[1, 100]), go(3))
        self.holds(12, cue(1, 3, moves=[1, 100]), cue(2, 90, 7, moves=[1, 30]), go(0), go(5))
        self.holds(3 + 600, cue(1, 600, 0, moves=[64, 1]), go(3))

    def test_the_longest_of_several(self):
        cues = [cue(1, 4, moves=[1, 60, 2, 20]), cue(2, 9, 6, moves=[1, 20, 2, 20, 3, 0])]
        self.holds(10 + 6, *cues, go(0), go(10))
        self.holds(10 + 6, *cues, go(0), goto(2, 10))
        self.holds(50 + 4, *cues, goto(1, 50))
        # The first channel begins later and is at its level sooner than the last.
        self.holds(9, cue(1, 2, 0, 4, 0, [1, 50]), cue(2, 8, 0, 0, 0, [64, 50]), go(0), go(1))
        self.holds(9, cue(1, 2, 0, 4, 0, [64, 50]), cue(2, 8, 0, 0, 0, [1, 50]), go(0), go(1))

    def test_a_fade_that_waits_for_its_delay(self):
        self.holds(33, cue(1, 10, 0, 20, moves=[1, 100]), go(3))
        self.holds(33, cue(1, 10, 0, 20, moves=[1, 100]), goto(1, 3))
        self.holds(23, cue(1, 0, 10, 20, moves=[1, 100]), go(3))

    def test_one_that_waits_behind_one_that_goes_on(self):
        self.holds(2 + 8 + 5, cue(1, 90, moves=[1, 90]), cue(2, 90, 5, 8, moves=[1, 1]), go(0), go(2))
        self.holds(2 + 8, cue(1, 90, moves=[1, 90]), cue(2, 0, 0, 8, moves=[1, 1]), go(0), go(2))

    def test_one_that_doesnt_begin_any_more(self):
        self.holds(4, cue(1, 50, 50, 5, moves=[1, 100]), cue(2, moves=[1, 0]), go(0), go(4))
        self.holds(7, cue(1, 50, 50, 5, moves=[1, 100]), cue(2, 0, 0, 3, moves=[1, 40]), go(0), go(4))
        # At its very begin it has begun, and a fade back to 0 in no time cuts it short there.
        self.holds(5, cue(1, 50, 50, 5, moves=[1, 100]), cue(2, moves=[1, 0]), go(0), go(5))

    def test_in_no_time(self):
        self.holds(3, cue(1, 0, 90, moves=[1, 100]), go(3))
        self.holds(9, cue(1, 0, 90, moves=[1, 100]), cue(2, 90, 0, moves=[1, 99]), go(3), go(9))
        self.holds(8, cue(1, follow=5, moves=[1, 100]), cue(2, moves=[1, 0]), go(3))

    def test_a_fade_that_came_to_its_end_before_the_last_go(self):
        self.holds(90, cue(1, 10, moves=[1, 100]), cue(2, moves=[2, 0]), go(0), go(90))
        self.holds(0, cue(1, 10, moves=[1, 100]), go(0), reset())

    def test_it_may_be_above_the_last_time(self):
        cues = [cue(1, 600, 600, 600, 600, [1, 100]), cue(2, 600, 600, 600, 600, [1, 0])]
        self.holds(1000000 + 600 + 600 + 600, *cues, go(1000000))
        self.holds(1000000 + 600 + 600, *cues[:1], go(1000000))
        self.holds(1000000, *cues, go(0), goto(1, 1000000), cue(3), goto(3, 1000000))


class LevelTest(StillCase):
    """A channel told to go where it is doesn't change."""

    def test_told_the_level_that_it_is_at(self):
        self.holds(5, cue(1, 10, 10, 10, moves=[1, 0]), go(5))
        self.holds(7, cue(1, moves=[1, 50]), cue(2, 30, 30, 20, moves=[1, 50]), go(0), go(7))
        self.holds(7, cue(1, moves=[1, 50]), cue(2, 30, 30, 20), go(0), goto(2, 7))
        self.holds(7, cue(1, moves=[1, 100]), cue(2, 30, 30, 20, moves=[1, 100]), go(0), goto(2, 7))

    def test_told_the_level_to_which_it_goes(self):
        # It sets off anew from 50, and takes 10 once more.
        self.holds(15, cue(1, 10, moves=[1, 100]), cue(2, 10, moves=[1, 100]), go(0), go(5))
        # It's there when the second fade begins.
        self.holds(10, cue(1, 10, moves=[1, 100]), cue(2, 90, 90, 5, moves=[1, 100]), go(0), go(5))
        self.holds(10, cue(1, 10, moves=[1, 100]), cue(2, 90, 90, 6, moves=[1, 100]), go(0), go(5))
        self.holds(99, cue(1, 10, moves=[1, 100]), cue(2, 90, 90, 4, moves=[1, 100]), go(0), go(5))

    def test_cut_short_at_just_the_level_where_it_is(self):
        first = cue(1, 10, moves=[1, 100])
        for length in (0, 1, 70):
            second = cue(2, length, length, 3, moves=[1, 50])
            self.holds(5, first, second, go(0), go(2))
            self.holds(5, first, cue(2, length, length, 5, moves=[1, 50]), go(0), go(0))
        self.holds(6, first, cue(2, 1, 1, 3, moves=[1, 49]), go(0), go(2))
        self.holds(6, first, cue(2, 1, 1, 3, moves=[1, 51]), go(0), go(2))
        self.holds(5, cue(1, 10, follow=5, moves=[1, 100]), cue(2, 70, 70, moves=[1, 50]), go(0))
        self.holds(6, cue(1, 10, follow=4, moves=[1, 100]), cue(2, 70, 70, 2, moves=[1, 60]), go(0))

    def test_near_the_level_isnt_there(self):
        # It comes to 100 times 1 by 3 when it's cut short, and 33 isn't that.
        self.holds(71, cue(1, 3, moves=[1, 100]), cue(2, 70, 70, 1, moves=[1, 33]), go(0), go(0))
        self.holds(1, cue(1, 3, moves=[1, 99]), cue(2, 70, 70, 1, moves=[1, 33]), go(0), go(0))

    def test_changes_between_whole_times_alone(self):
        # At 0 and at 1 and ever after the channel is at 0, but between them it isn't.
        calls = [cue(1, 2, moves=[1, 100]), cue(2, 0, 0, 1, moves=[1, 0]), go(0), go(0)]
        self.assertEqual([levels(calls, time, [1]) for time in (0, 1, 2, 9)], [[0]] * 4)
        self.holds(1, *calls)
        calls = [cue(1, 2, delay=3, moves=[1, 100]), cue(2, 0, 0, 1, moves=[1, 0]), go(0), go(3)]
        self.assertEqual([levels(calls, time, [1]) for time in (3, 4, 5, 9)], [[0]] * 4)
        self.holds(4, *calls)


class FollowTest(StillCase):
    def test_a_follow_that_moves_nothing(self):
        self.holds(8, cue(1, follow=5), cue(2), go(3))
        self.holds(8, cue(1, follow=5, moves=[1, 50]), cue(2, 30, 30, 30, moves=[1, 50]), go(3))

    def test_a_fade_that_is_longer_than_the_follow(self):
        self.holds(33, cue(1, 30, follow=5, moves=[1, 50]), cue(2), go(3))

    def test_several_one_behind_another(self):
        cues = [cue(1, 4, follow=5, moves=[1, 50]), cue(2, 0, 6, 2, 10, [1, 10]), cue(3, 9, 9, 1, 20, [2, 10]), cue(4)]
        self.holds(3 + 5 + 10 + 20, *cues, go(3))
        self.holds(3 + 5 + 10 + 1 + 9, *cues[:3], go(3))
        self.holds(3 + 5 + 2 + 6, *cues[:2], go(3))
        self.holds(3 + 4, *cues[:1], go(3))

    def test_a_fade_of_the_first_outlasts_them_all(self):
        later = [cue(number, follow=2, moves=[2, number]) for number in range(2, 9)]
        self.holds(90, cue(1, 90, follow=5, moves=[1, 50]), *later, go(0))

    def test_what_follows_cuts_short(self):
        self.holds(5 + 7, cue(1, 600, follow=5, moves=[1, 100]), cue(2, 0, 7, moves=[1, 0]), go(0))
        self.holds(5, cue(1, 600, delay=6, follow=5, moves=[1, 100]), cue(2, 9, 7, moves=[1, 0]), go(0))
        self.holds(5 + 7, cue(1, 600, delay=5, follow=5, moves=[1, 100]), cue(2, 7, 0, moves=[1, 50]), go(0))

    def test_a_chain_of_all_24(self):
        cues = [cue(number, 0, 0, 599, 600, [1, number]) for number in range(1, 25)]
        self.holds(7 + 23 * 600 + 599, *cues, go(7))
        self.holds(7 + 600 + 599, *cues, goto(23, 7))

    def test_a_call_ahead_of_the_follow_or_behind_it(self):
        cues = [cue(1, follow=50, moves=[1, 10]), cue(2, 20, moves=[1, 100])]
        self.holds(70, *cues, go(0))
        self.holds(60, *cues, go(0), go(40))
        self.holds(90, *cues, go(0), goto(1, 20))
        self.holds(70, *cues, go(0), cue(3), go(51))

    def test_one_added_later(self):
        self.holds(0, cue(1, follow=50), go(0), cue(2))
        self.holds(75, cue(1, follow=50), cue(2, follow=25), go(0), still(), stand(90), cue(3))

    def test_follows_above_the_last_time(self):
        self.holds(1000009, cue(1, follow=5), cue(2, follow=4), cue(3), go(1000000))


class AskTest(unittest.TestCase):
    def test_asked_again_it_is_the_same(self):
        calls = [cue(1, 7, 5, 3, 8, [1, 100]), cue(2, 7, 5, 3, 8, [1, 20]), go(2)]
        self.assertEqual(ask(*calls, still(), still(), stand(90), at(500, 1), still(), still())[3:],
                         [[18], [18], [2, 0], [20, 1], [18], [18]])

    def test_it_isnt_a_go(self):
        calls = [cue(1, 7, 5, 3, 8, [1, 100]), cue(2, 7, 5, 3, 8, [1, 20]), go(2), still(), go(3), still()]
        self.assertEqual(ask(*calls)[2:], [[1], [18], [2], [13]])


if __name__ == "__main__":
    unittest.main()

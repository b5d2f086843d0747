"""Cues that follow by themselves: when, which, and when they don't."""

import unittest

from tests.helper import ask, at, cue, go, goto


def chain(*follows):
    """Cues 1, 2, .. with these follows; each sets channel 1 to ten times its number at once."""
    return [cue(number, 0, 0, 0, follow, [1, 10 * number]) for number, follow in enumerate(follows, start=1)]


def track(calls, times):
    """Where channel 1 is at each of the times; only whole levels are met."""
    found = ask(*calls, *[at(time, 1) for time in times])[len(calls):]
    assert all(lower == 1 for upper, lower in found)
    return [upper for upper, lower in found]


class FollowTest(unittest.TestCase):
    def test_one_follows(self):
        self.assertEqual(track([*chain(5, 0), go(3)], [3, 7, 8, 9, 1000]), [10, 10, 20, 20, 20])

    def test_none_without_a_follow(self):
        self.assertEqual(track([*chain(0, 5, 5), go(3)], [3, 8, 1000]), [10, 10, 10])

    def test_none_before_the_first_goes(self):
        self.assertEqual(track(chain(5, 5, 5), [0, 5, 1000]), [0, 0, 0])

    def test_none_behind_the_last(self):
        self.assertEqual(track([*chain(5), go(0)], [4, 5, 600]), [10, 10, 10])

    def test_a_chain(self):
        found = track([*chain(5, 1, 600, 0, 9), go(2)], [6, 7, 8, 607, 608, 9999])
        self.assertEqual(found, [10, 20, 30, 30, 40, 40])

    def test_a_chain_of_all_24(self):
        cues = [cue(number, 0, 0, 0, 2, [1, number]) for number in range(1, 25)]
        self.assertEqual(track([*cues, go(1)], [1, 2, 3, 24, 45, 46, 47, 99]), [1, 1, 2, 12, 23, 23, 24, 24])

    def test_it_follows_what_is_gone_to(self):
        self.assertEqual(track([*chain(5, 7, 5), goto(2, 10)], [10, 16, 17, 1000]), [20, 20, 30, 30])

    def test_it_goes_as_a_cue_goes(self):
        # What follows tells its own moves alone, in its own times, from where the channel is.
        cues = [cue(1, 10, 0, 0, 4, [1, 100, 2, 60]), cue(2, 0, 6, 2, 0, [1, 0])]
        found = ask(*cues, go(0), at(4, 1), at(6, 1), at(9, 1), at(12, 1), at(5, 2), at(12, 2))
        self.assertEqual(found[3:], [[40, 1], [60, 1], [30, 1], [0, 1], [30, 1], [60, 1]])

    def test_the_follow_may_be_above_the_last_time(self):
        calls = [*chain(5, 0), go(999998)]
        self.assertEqual(track(calls, [1000000]), [10])
        self.assertEqual(ask(*calls, go(1000000))[3:], [[2]])

    def test_at_an_earlier_time_than_asked_it_hasnt_followed(self):
        self.assertEqual(track([*chain(5, 5, 5), go(0)], [10, 4, 5, 0, 9]), [30, 10, 20, 10, 20])


class CallAheadTest(unittest.TestCase):
    def test_a_go_ahead_of_it(self):
        calls = [*chain(5, 0, 0), go(0), go(4)]
        self.assertEqual(ask(*calls)[3:], [[1], [2]])
        self.assertEqual(track(calls, [4, 5, 1000]), [20, 20, 20])

    def test_the_cue_that_went_instead_has_a_follow_of_its_own(self):
        self.assertEqual(track([*chain(5, 5, 0), go(0), go(4)], [5, 8, 9]), [20, 20, 30])

    def test_a_goto_ahead_of_it(self):
        calls = [*chain(5, 0, 0), go(0), goto(3, 4)]
        self.assertEqual(track(calls, [4, 5, 9, 1000]), [30, 30, 30, 30])
        again = [*chain(5, 0), go(0), goto(1, 4)]
        self.assertEqual(track(again, [5, 8, 9]), [10, 10, 20])

    def test_a_goto_at_the_time_of_the_go(self):
        self.assertEqual(track([*chain(5, 0, 0), go(0), goto(3, 0)], [0, 5]), [30, 30])

    def test_a_go_in_the_midst_of_a_chain(self):
        calls = [*chain(5, 5, 5, 5, 0), go(0), go(7)]
        self.assertEqual(ask(*calls)[6:], [[3]])
        self.assertEqual(track(calls, [7, 10, 11, 12, 16, 17]), [30, 30, 30, 40, 40, 50])

    def test_a_refused_go_or_goto_takes_nothing_away(self):
        calls = [*chain(5, 0), go(1), go(0), goto(1, 0), goto(9, 2), goto(1, 1000001), go(9)]
        self.assertEqual(ask(*calls)[3:], [[-1], [-1], [-4], [-1], [-3]])
        self.assertEqual(track(calls, [1, 5, 6]), [10, 10, 20])


class CallAtThatTimeTest(unittest.TestCase):
    def test_a_go_comes_behind_it(self):
        calls = [*chain(5, 0, 0), go(0), go(5)]
        self.assertEqual(ask(*calls)[3:], [[1], [3]])
        self.assertEqual(track(calls, [5, 6]), [30, 30])

    def test_a_go_with_none_behind_then(self):
        self.assertEqual(ask(*chain(5, 0), go(0), go(4 + 1), go(4))[2:], [[1], [-3], [2]])

    def test_a_goto_comes_behind_it(self):
        # Channel 2 shows that the second cue has gone: what it was at is left behind in its fade.
        cues = [cue(1, 0, 8, 0, 5, [1, 10]), cue(2, moves=[1, 50, 2, 80])]
        found = ask(*cues, go(0), goto(1, 5), at(5, 1), at(9, 1), at(5, 2), at(9, 2))
        self.assertEqual(found[3:], [[1], [50, 1], [30, 1], [80, 1], [40, 1]])

    def test_one_time_before_it_is_ahead(self):
        cues = [cue(1, 0, 8, 0, 5, [1, 10]), cue(2, moves=[1, 50, 2, 80])]
        found = ask(*cues, go(0), goto(1, 4), at(4, 1), at(8, 1), at(4, 2), at(8, 2), at(9, 2))
        self.assertEqual(found[3:], [[1], [10, 1], [10, 1], [0, 1], [0, 1], [80, 1]])

    def test_a_chain_up_to_that_time(self):
        calls = [*chain(2, 3, 4, 0, 0), go(0), go(9)]
        self.assertEqual(ask(*calls)[6:], [[5]])
        self.assertEqual(ask(*calls[:-1], go(8))[6:], [[4]])

    def test_the_last_go_told_isnt_one_that_followed(self):
        calls = [*chain(5, 5, 0), go(3)]
        found = ask(*calls, at(100, 1), at(3, 1), at(2, 1), go(2), go(3))[4:]
        self.assertEqual(found, [[30, 1], [10, 1], [-1], [-1], [2]])


class AddedLaterTest(unittest.TestCase):
    def test_behind_one_that_went_by_a_call_it_doesnt_follow(self):
        calls = [*chain(5), go(0), cue(2, moves=[1, 20])]
        self.assertEqual(track(calls, [5, 6, 1000]), [10, 10, 10])
        self.assertEqual(ask(*calls, go(2))[3:], [[2]])
        self.assertEqual(ask(*calls, go(7))[3:], [[2]])

    def test_behind_one_gone_to_it_doesnt_follow(self):
        calls = [*chain(5, 5), goto(2, 0), cue(3, moves=[1, 30])]
        self.assertEqual(track(calls, [5, 6, 1000]), [20, 20, 20])

    def test_when_that_one_goes_again_it_follows(self):
        calls = [*chain(5), go(0), cue(2, moves=[1, 20]), goto(1, 1)]
        self.assertEqual(track(calls, [5, 6]), [10, 20])

    def test_behind_one_that_follows_added_before_it_does(self):
        calls = [*chain(5, 5), go(0), at(4, 1), cue(3, moves=[1, 30])]
        self.assertEqual(track(calls, [4, 5, 9, 10]), [10, 20, 20, 30])

    def test_behind_one_that_follows_added_when_it_has(self):
        calls = [*chain(5, 5), go(0), at(50, 1), cue(3, follow=5, moves=[1, 30]), at(50, 1), cue(4, moves=[1, 40])]
        self.assertEqual(ask(*calls)[3:], [[20, 1], [3], [30, 1], [4]])
        self.assertEqual(track(calls, [5, 9, 10, 14, 15]), [20, 20, 30, 30, 40])

    def test_go_sees_what_was_added(self):
        calls = [*chain(5, 5), go(0), go(50), cue(3, moves=[1, 30]), go(10), cue(4, moves=[1, 40]), go(10)]
        self.assertEqual(ask(*calls)[3:], [[-3], [3], [-3], [4], [4]])

    def test_what_was_told_since_stays_as_it_was(self):
        # At the goto none was behind the second cue, so nothing had followed it.
        calls = [*chain(5, 5), go(0), goto(2, 20), cue(3, 0, 0, 50, 0, [1, 30])]
        self.assertEqual(track(calls, [20, 25, 60, 1000]), [20, 20, 20, 20])


if __name__ == "__main__":
    unittest.main()

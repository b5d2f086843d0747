"""The calls go and goto: which cue goes, what's refused, and what's told to which channels."""

import unittest

from tests.helper import ask, ask_last, at, cue, go, goto

THREE = [cue(2, moves=[1, 10]), cue(4, moves=[2, 20]), cue(9, moves=[1, 30, 3, 40])]


def behind(*calls):
    return ask(*THREE, *calls)[3:]


class GoTest(unittest.TestCase):
    def test_cues_go_one_behind_another(self):
        self.assertEqual(behind(go(0), go(5), go(1000)), [[2], [4], [9]])

    def test_several_may_go_at_one_time(self):
        self.assertEqual(behind(go(3), go(3), go(3), at(3, 1), at(3, 2)), [[2], [4], [9], [30, 1], [20, 1]])

    def test_none_behind(self):
        self.assertEqual(ask(go(0)), [[-3]])
        self.assertEqual(behind(go(0), go(0), go(0), go(0), go(1)), [[2], [4], [9], [-3], [-3]])
        self.assertEqual(behind(goto(9, 0), go(1)), [[9], [-3]])

    def test_a_time_before_the_last_go(self):
        self.assertEqual(behind(go(10), go(9), go(0), go(10)), [[2], [-1], [-1], [4]])
        self.assertEqual(behind(goto(4, 10), go(9), go(10)), [[4], [-1], [9]])

    def test_a_time_above_1000000(self):
        self.assertEqual(behind(go(1000001), go(4294967295), go(1000000)), [[-1], [-1], [2]])

    def test_the_time_is_looked_at_first(self):
        self.assertEqual(ask(go(1000001), go(1000000)), [[-1], [-3]])
        self.assertEqual(behind(goto(9, 10), go(9), go(10)), [[9], [-1], [-3]])

    def test_a_refused_go_changes_nothing(self):
        self.assertEqual(behind(goto(4, 5), go(4), at(5, 3), go(5)), [[4], [-1], [0, 1], [9]])
        self.assertEqual(behind(goto(9, 5), go(50), go(6), goto(2, 5)), [[9], [-3], [-3], [2]])
        self.assertEqual(behind(go(1000001), go(0)), [[-1], [2]])

    def test_a_time_that_is_only_asked_isnt_the_last_go(self):
        self.assertEqual(behind(go(5), at(500, 1), go(5)), [[2], [10, 1], [4]])

    def test_what_a_cue_doesnt_move_stays(self):
        found = behind(go(0), go(0), go(0), at(0, 1), at(0, 2), at(0, 3), at(0, 4))
        self.assertEqual(found[3:], [[30, 1], [20, 1], [40, 1], [0, 1]])


class GotoTest(unittest.TestCase):
    def test_answers_its_number(self):
        self.assertEqual(behind(goto(9, 0), goto(2, 7), goto(2, 7), goto(4, 1000000)), [[9], [2], [2], [4]])

    def test_no_such_cue(self):
        self.assertEqual(ask(goto(1, 0), goto(0, 0)), [[-4], [-4]])
        numbers = [0, 1, 3, 8, 10, 10000, 4294967295]
        self.assertEqual(behind(*[goto(number, 0) for number in numbers]), [[-4]] * 7)

    def test_a_time_before_the_last_go(self):
        self.assertEqual(behind(goto(9, 10), goto(2, 9), goto(2, 10)), [[9], [-1], [2]])
        self.assertEqual(behind(go(10), goto(4, 9), goto(4, 10)), [[2], [-1], [4]])

    def test_a_time_above_1000000(self):
        self.assertEqual(behind(goto(2, 1000001), goto(2, 1000000)), [[-1], [2]])

    def test_the_time_is_looked_at_first(self):
        self.assertEqual(behind(go(1), goto(3, 0), goto(3, 1000001), goto(3, 1)), [[2], [-1], [-1], [-4]])

    def test_a_refused_goto_changes_nothing(self):
        found = behind(go(5), goto(9, 4), goto(3, 50), goto(9, 1000001), at(5, 1), at(5, 3), go(5))
        self.assertEqual(found, [[2], [-1], [-4], [-1], [10, 1], [0, 1], [4]])

    def test_go_goes_on_behind_it(self):
        self.assertEqual(behind(goto(4, 0), go(0), goto(2, 0), go(0)), [[4], [9], [2], [4]])

    def test_all_channels_are_told_the_look(self):
        found = behind(goto(9, 0), at(0, 1), at(0, 2), at(0, 3), at(0, 4))
        self.assertEqual(found, [[9], [30, 1], [20, 1], [40, 1], [0, 1]])
        found = behind(goto(9, 0), goto(4, 1), at(1, 1), at(1, 2), at(1, 3))
        self.assertEqual(found, [[9], [4], [10, 1], [20, 1], [0, 1]])

    def test_the_first_channel_and_the_last_are_told_too(self):
        cues = [cue(1), cue(2, moves=[1, 20, 2, 30, 63, 40, 64, 50])]
        found = ask(*cues, goto(2, 0), goto(1, 1), at(1, 1), at(1, 2), at(1, 63), at(1, 64))
        self.assertEqual(found[4:], [[0, 1]] * 4)
        found = ask(*cues, cue(3), goto(3, 0), at(0, 1), at(0, 2), at(0, 63), at(0, 64))
        self.assertEqual(found[4:], [[20, 1], [30, 1], [40, 1], [50, 1]])

    def test_it_is_told_in_the_cues_own_times(self):
        cues = [cue(1, 10, 20, 5, 0, [1, 80]), cue(2, 4, 8, 2, 0, [2, 40])]
        found = ask(*cues, goto(2, 0), at(2, 1), at(3, 1), at(6, 1), goto(1, 10), at(15, 2), at(20, 2), at(35, 2))
        self.assertEqual(found[2:], [[2], [0, 1], [20, 1], [80, 1], [1], [40, 1], [30, 1], [0, 1]])

    def test_it_takes_away_what_waits_in_any_channel(self):
        cues = [cue(1, moves=[5, 60]), cue(2, delay=50, moves=[5, 90, 6, 70])]
        found = ask(*cues, go(0), go(0), goto(1, 49), at(49, 5), at(50, 5), at(50, 6), at(1000, 6))
        self.assertEqual(found[4:], [[1], [60, 1], [60, 1], [0, 1], [0, 1]])

    def test_a_look_isnt_touched_by_later_cues(self):
        cues = [cue(1, moves=[1, 10]), cue(2, moves=[1, 20, 2, 30]), cue(3, moves=[2, 0])]
        self.assertEqual(ask_last(*cues, go(0), go(0), go(0), goto(1, 1), at(1, 1)), [10, 1])
        self.assertEqual(ask_last(*cues, goto(2, 1), at(1, 2)), [30, 1])
        self.assertEqual(ask_last(*cues, goto(3, 1), at(1, 2)), [0, 1])


if __name__ == "__main__":
    unittest.main()

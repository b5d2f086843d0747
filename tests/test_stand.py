"""The call stand: which cue has gone last, and when the next one follows."""

import unittest

from tests.helper import ask, ask_last, at, cue, go, goto, reset, stand, still, when

CHAIN = [cue(3, follow=5), cue(4, follow=7), cue(9999)]


def behind(*calls):
    """What's answered behind cues 3, 4 and 9999: 4 follows 5 behind 3, 9999 follows 7 behind 4."""
    return ask(*CHAIN, *calls)[3:]


class StandTest(unittest.TestCase):
    def test_before_any_go(self):
        self.assertEqual(ask(stand(0), stand(7), stand(1000000)), [[0, 0]] * 3)
        self.assertEqual(behind(stand(0), stand(600), stand(1000000)), [[0, 0]] * 3)

    def test_a_follow_and_one_behind(self):
        self.assertEqual(behind(go(10), stand(10), stand(14)), [[3], [3, 1, 15], [3, 1, 15]])
        self.assertEqual(behind(goto(4, 10), stand(10), stand(16)), [[4], [4, 1, 17], [4, 1, 17]])

    def test_a_follow_of_0(self):
        self.assertEqual(ask(cue(7), cue(8, follow=5), go(3), stand(3), stand(500))[3:], [[7, 0], [7, 0]])
        self.assertEqual(behind(goto(9999, 3), stand(3), stand(1000000)), [[9999], [9999, 0], [9999, 0]])

    def test_the_last_of_the_list(self):
        self.assertEqual(ask(cue(7, follow=5), go(3), stand(3), stand(8), stand(9))[2:], [[7, 0]] * 3)
        self.assertEqual(ask(cue(7, follow=5), cue(8, follow=5), goto(8, 3), stand(3), stand(8))[3:], [[8, 0]] * 2)

    def test_what_has_followed_by_itself(self):
        found = behind(go(10), stand(15), stand(21), stand(22), stand(1000000))
        self.assertEqual(found[1:], [[4, 1, 22], [4, 1, 22], [9999, 0], [9999, 0]])

    def test_the_last_of_the_list_has_followed(self):
        found = ask(cue(1, follow=2), cue(2, follow=2), go(0), stand(1), stand(2), stand(4))[3:]
        self.assertEqual(found, [[1, 1, 2], [2, 0], [2, 0]])

    def test_a_chain_of_all_24(self):
        cues = [cue(10 * number, follow=number) for number in range(1, 25)]
        found = ask(*cues, go(100), *[stand(time) for time in range(100, 450)])[25:]
        goes = [100 + number * (number - 1) // 2 for number in range(1, 26)]
        for time, answer in enumerate(found, start=100):
            gone = len([begin for begin in goes[:24] if begin <= time])
            self.assertEqual(answer, [10 * gone, 1, goes[gone]] if gone < 24 else [240, 0])

    def test_a_cue_added_behind_one_that_went_by_a_call(self):
        for call in (go(3), goto(7, 3)):
            found = ask(cue(7, follow=5), call, cue(8), stand(3), stand(8), stand(9))[3:]
            self.assertEqual(found, [[7, 0]] * 3)

    def test_a_cue_added_behind_one_that_followed(self):
        calls = [cue(7, follow=5), cue(8, follow=5), go(3), stand(20), cue(9), stand(7), stand(8), stand(13)]
        self.assertEqual(ask(*calls)[3:], [[8, 0], [3], [7, 1, 8], [8, 1, 13], [9, 0]])

    def test_the_next_may_be_above_the_last_time(self):
        found = behind(go(999998), stand(999998), stand(1000000))
        self.assertEqual(found[1:], [[3, 1, 1000003], [3, 1, 1000003]])

    def test_a_call_ahead_of_the_follow(self):
        self.assertEqual(behind(go(0), go(4), stand(4), stand(5), stand(11))[2:], [[4, 1, 11], [4, 1, 11], [9999, 0]])
        found = behind(go(0), goto(3, 4), stand(4), stand(8), stand(9))[2:]
        self.assertEqual(found, [[3, 1, 9], [3, 1, 9], [4, 1, 16]])

    def test_a_call_at_the_time_of_the_follow(self):
        self.assertEqual(behind(go(0), go(5), stand(5), stand(12))[1:], [[9999], [9999, 0], [9999, 0]])
        self.assertEqual(behind(go(0), goto(3, 5), stand(5), stand(10))[2:], [[3, 1, 10], [4, 1, 17]])

    def test_several_went_at_that_time(self):
        self.assertEqual(behind(go(6), go(6), stand(6))[2:], [[4, 1, 13]])
        self.assertEqual(behind(go(6), go(6), go(6), goto(3, 6), stand(6))[4:], [[3, 1, 11]])


class RefusedTest(unittest.TestCase):
    def test_a_time_before_the_last_go_that_was_told(self):
        self.assertEqual(behind(goto(4, 10), stand(9), stand(0), stand(10))[1:], [[-1], [-1], [4, 1, 17]])

    def test_of_those_that_followed_nothing_is_asked(self):
        self.assertEqual(behind(go(10), stand(90), stand(12))[1:], [[9999, 0], [3, 1, 15]])

    def test_a_time_above_1000000(self):
        found = behind(stand(1000001), stand(4294967295), go(0), stand(1000001), stand(1000000))
        self.assertEqual(found, [[-1], [-1], [3], [-1], [9999, 0]])

    def test_a_refused_go_isnt_the_last(self):
        self.assertEqual(behind(go(10), go(9), goto(8, 12), goto(9999, 9), stand(10))[4:], [[3, 1, 15]])

    def test_it_changes_nothing(self):
        calls = [go(10), go(15), still(), at(15, 1), when(20, 1, 0), reset(), stand(0)]
        mixed = [each for call in calls for each in (stand(5), stand(90), call, stand(1000001), stand(30))]
        self.assertEqual(behind(*mixed)[2::5], behind(*calls))

    def test_a_time_that_is_only_asked_isnt_the_last_go(self):
        self.assertEqual(behind(go(10), stand(500), stand(10), go(10))[2:], [[3, 1, 15], [4]])
        self.assertEqual(ask_last(stand(500), stand(0)), [0, 0])


if __name__ == "__main__":
    unittest.main()

import unittest
from unittest import mock

from jugglebench.bench import after, way
from telling import Leads, first_way, state, states_of, told, word_of

LAST = 4294967295


class WayTest(unittest.TestCase):
    def leads(self, high, most, s, u, word):
        self.assertEqual(way(high, most, s, u), told(word))

    def refused(self, high, most, s, u):
        self.assertEqual(way(high, most, s, u), [-1])
        self.assertEqual(way(high, most, u, s), [-1])


class AnswerTest(WayTest):
    def test_from_a_state_to_itself(self):
        self.leads(3, 1, [1, 1, 1], [1, 1, 1], "")
        self.leads(1, 1, [], [], "")
        self.leads(8, 2, [], [0] * 15, "")
        self.leads(8, 2, [2, 2, 1], [2, 2, 1, 0], "")
        self.leads(8, 2, [0, 0, 0, 0, 0, 1, 2, 2], [0, 0, 0, 0, 0, 1, 2, 2], "")

    def test_single_throws(self):
        self.leads(4, 1, [1, 1, 1], [1, 1, 0, 1], "4")
        self.leads(4, 1, [1, 1, 0, 1], [1, 1, 1], "2")
        self.leads(5, 1, [1, 1, 1], [1, 1, 0, 0, 1], "5")
        self.leads(5, 1, [1, 1, 1], [1, 0, 1, 1], "44")
        self.leads(5, 1, [1, 1, 1], [1, 0, 1, 0, 1], "45")
        self.leads(8, 1, [1], [0, 0, 0, 0, 0, 0, 0, 1], "8")
        self.leads(2, 1, [1], [0, 1], "2")

    def test_beats_with_none(self):
        self.leads(2, 1, [0, 1], [1], "0")
        self.leads(8, 1, [0, 0, 0, 0, 0, 0, 0, 1], [1], "0000000")
        self.leads(4, 1, [0, 1, 1], [0, 0, 1, 1], "044")
        self.leads(3, 2, [0, 0, 2], [2], "00")

    def test_two_landing(self):
        self.leads(3, 2, [2, 1], [1, 1, 1], "[32]")
        self.leads(3, 2, [1, 1, 1], [2, 1], "1")
        self.leads(2, 2, [2], [1, 1], "[21]")
        self.leads(3, 2, [2], [0, 0, 2], "[33]")

    def test_the_first_of_several(self):
        self.leads(3, 2, [1, 1], [0, 1, 1], "1[32]")
        self.leads(5, 2, [0, 0, 0, 1, 1], [0, 1, 0, 0, 1], "0001[52]")
        self.leads(4, 2, [1, 1, 1], [0, 1, 1, 1], "1[31][43]")
        self.leads(5, 1, [1, 1], [0, 0, 0, 1, 1], "55")
        self.leads(5, 1, [1, 1], [0, 0, 1, 0, 1], "45")

    def test_never_more_than_most_between(self):
        self.leads(3, 1, [1, 1], [0, 1, 1], "33")
        self.leads(5, 1, [0, 0, 0, 1, 1], [0, 1, 0, 0, 1], "00035")
        self.leads(4, 1, [1, 1, 1], [0, 1, 1, 1], "444")

    def test_numbers_behind_those_told_are_0(self):
        for length in range(4, 16):
            self.leads(4, 1, [1, 1, 1], state(1, 1, 0, 1)[:length], "4")
            self.leads(4, 1, state(1, 1, 0, 1)[:length], [1, 1, 1], "2")

    def test_every_row_tried(self):
        for high in (1, 2, 3, 4):
            for most in (1, 2):
                for balls in range(6):
                    states = states_of(high, most, balls)
                    for s in states:
                        for u in states:
                            row = first_way(s, u, high, most)
                            self.leads(high, most, list(s), list(u), word_of(row))

    def test_as_told_from_the_goal_backwards(self):
        for high, most, balls, step in [(5, 2, 3, 5), (6, 1, 3, 3), (7, 2, 4, 23), (8, 1, 5, 7), (8, 2, 5, 61)]:
            leads = Leads(high, most, balls)
            for u in leads.states[::step]:
                far = leads.distances(u)
                for s in leads.states[::step - 1]:
                    word = word_of(leads.first_way(s, far))
                    self.leads(high, most, list(s), list(u), word)

    def test_the_row_done_leads_there(self):
        for high, most, balls in [(4, 2, 3), (5, 1, 2), (5, 2, 5), (6, 1, 4)]:
            states = states_of(high, most, balls)
            for s in states:
                for u in states:
                    answer = way(high, most, list(s), list(u))
                    self.assertEqual(answer[0], len(answer) - 1)
                    if s == u:
                        self.assertEqual(answer, [0])
                    else:
                        self.assertEqual(after(list(s), answer[1:]), list(u))


class NoneTest(WayTest):
    # From each state that may be asked for there is a way of at most high beats to each other of as many balls, so
    # that there's none is only seen where the search is made to find none.
    def test_there_is_one_of_at_most_high_beats(self):
        for high in range(1, 9):
            for most in (1, 2):
                for balls in range(6):
                    leads = Leads(high, most, balls)
                    for u in leads.states:
                        far = leads.distances(u)
                        self.assertEqual(len(far), len(leads.states))
                        self.assertLessEqual(max(far.values()), high)

    def test_there_is_none(self):
        with mock.patch("jugglebench.bench.shortest_row", return_value=None):
            self.assertEqual(way(3, 1, [1, 1], [1, 0, 1]), [-4])


class RefusalTest(WayTest):
    def test_high(self):
        self.refused(0, 1, [], [])
        self.refused(9, 1, [1], [1])
        self.refused(LAST, 1, [1], [1])
        self.refused(9, 2, [1], [0, 1])
        self.leads(1, 1, [1], [1], "")
        self.leads(8, 1, [1], [1], "")
        self.leads(8, 1, [1], [0, 1], "2")

    def test_most(self):
        self.refused(3, 0, [], [])
        self.refused(3, 0, [1], [1])
        self.refused(3, 3, [1], [1])
        self.refused(3, LAST, [1], [1])
        self.leads(3, 1, [1], [0, 1], "2")
        self.leads(3, 2, [1], [0, 1], "2")

    def test_balls(self):
        self.leads(8, 1, [1] * 5, [1, 1, 1, 1, 0, 1], "6")
        self.leads(8, 2, [2, 2, 1], [2, 2, 1], "")
        self.refused(8, 1, [1] * 6, [1] * 6)
        self.refused(8, 2, [2, 2, 2], [2, 2, 2])
        self.refused(8, 2, [2, 2, 2], [2, 2, 1, 1])

    def test_a_ball_that_lands_too_far_from_now(self):
        for high in range(1, 9):
            far = [0] * (high - 1) + [1]
            self.leads(high, 1, far, [1], "0" * (high - 1))
            self.refused(high, 1, [0] + far, [1])
            self.refused(high, 1, [0] + far, [0] + far)
            self.refused(high, 1, [0] * 14 + [1], [1])

    def test_more_than_most_on_a_beat(self):
        self.refused(3, 1, [2], [1, 1])
        self.refused(3, 1, [2], [2])
        self.refused(3, 1, [0, 0, 2], [0, 0, 2])
        self.refused(3, 2, [3], [2, 1])
        self.refused(3, 2, [0, 3], [0, 3])
        self.leads(3, 2, [2], [1, 1], "[21]")

    def test_not_as_many_balls(self):
        self.refused(3, 1, [1], [])
        self.refused(3, 1, [1, 1], [1])
        self.refused(3, 2, [2, 2, 1], [2, 2])

    def test_what_is_no_state(self):
        self.refused(3, 1, [0] * 16, [])
        self.refused(3, 1, [1] + [0] * 15, [1])
        self.refused(3, 1, [0] * 16, [0] * 16)
        self.refused(3, 2, [4], [2, 2])
        self.refused(3, 2, [255], [255])
        self.refused(3, 2, [0] * 15 + [255], [])
        self.leads(3, 1, [0] * 15, [], "")


if __name__ == "__main__":
    unittest.main()

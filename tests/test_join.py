import unittest
from unittest import mock

from jugglebench.bench import air, join, way
from telling import text, told

LAST = 4294967295
WORDS = ["3", "531", "51", "15", "423", "441", "40", "04", "2", "1", "[21]", "[22]", "20", "97531", "5", "[21]1", "0",
         "[22]0[11]", "24[54]", "7", "6", "[321]", "501", "330"]


class JoinTest(unittest.TestCase):
    def joined(self, high, most, t, u, forth, backwards):
        self.assertEqual(join(high, most, text(t), text(u)), told(forth) + told(backwards))

    def refused(self, high, most, t, u, *answer):
        self.assertEqual(join(high, most, text(t), text(u)), list(answer))


class AnswerTest(JoinTest):
    def test_both_ways(self):
        self.joined(5, 1, "3", "51", "4", "2")
        self.joined(5, 1, "51", "3", "2", "4")
        self.joined(4, 1, "2", "40", "3", "1")
        self.joined(4, 1, "40", "04", "4", "0")
        self.joined(3, 2, "[21]", "3", "[32]", "1")
        self.joined(8, 2, "3", "[21]", "1", "[32]")

    def test_the_same_state(self):
        self.joined(3, 1, "3", "3", "", "")
        self.joined(3, 1, "3", "531", "", "")
        self.joined(5, 1, "531", "423", "", "")
        self.joined(1, 1, "0", "000", "", "")
        self.joined(5, 1, "5", "97531", "", "")

    def test_most_between(self):
        self.joined(3, 1, "2", "033", "33", "0")
        self.joined(3, 2, "2", "033", "1[32]", "0")

    def test_each_as_way_answers(self):
        for t in WORDS:
            for u in WORDS:
                here = air(0, text(t))
                there = air(0, text(u))
                for high, most in [(3, 1), (4, 1), (5, 2), (8, 1), (8, 2)]:
                    forth = way(high, most, here, there)
                    answer = forth + way(high, most, there, here) if forth != [-1] else [-1]
                    self.assertEqual(join(high, most, text(t), text(u)), answer)

    # Each two states that may be asked for have a way (see test_way.py), so the search is made to find none.
    def test_there_is_none(self):
        found = [
            ([None, None], [-4, -4]),
            ([None, [[3]]], [-4, 1, 51]),
            ([[[3], [2, 1]], None], [5, 51, 91, 50, 49, 93, -4]),
        ]
        for rows, answer in found:
            with mock.patch("jugglebench.bench.shortest_row", side_effect=rows):
                self.refused(5, 1, "3", "51", *answer)


class RefusalTest(JoinTest):
    def test_the_first_text(self):
        self.refused(5, 1, "", "3", -6, 0)
        self.refused(5, 1, "3x", "3", -6, 1)
        self.refused(5, 1, "21", "3", -5, 0)
        self.refused(5, 1, "1211", "3", -5, 2)

    def test_the_second_text(self):
        self.refused(5, 1, "3", "", -6, 0)
        self.refused(5, 1, "3", "3x", -6, 1)
        self.refused(5, 1, "3", "21", -5, 0)
        self.refused(5, 1, "3", "1211", -5, 2)

    def test_the_first_text_before_the_second(self):
        self.refused(5, 1, "x", "3[", -6, 0)
        self.refused(5, 1, "3[", "x", -6, 2)
        self.refused(5, 1, "1211", "x", -5, 2)
        self.refused(5, 1, "1211", "21", -5, 2)
        self.refused(5, 1, "21", "1211", -5, 0)
        self.refused(5, 1, "3x", "21", -6, 1)

    def test_both_before_what_way_refuses(self):
        self.refused(0, 1, "3x", "3", -6, 1)
        self.refused(0, 1, "3", "3x", -6, 1)
        self.refused(9, 3, "3", "1211", -5, 2)
        self.refused(9, 3, "1211", "3", -5, 2)
        self.refused(5, 1, "7", "1211", -5, 2)
        self.refused(LAST, LAST, "4", "3[", -6, 2)

    def test_high_and_most(self):
        for high in (0, 9, LAST):
            self.refused(high, 1, "3", "3", -1)
        for most in (0, 3, LAST):
            self.refused(3, most, "3", "3", -1)

    def test_balls(self):
        self.refused(8, 1, "6", "6", -1)
        self.refused(8, 2, "[42]", "6", -1)
        self.joined(8, 1, "5", "5", "", "")
        self.refused(8, 1, "3", "4", -1)
        self.refused(8, 1, "4", "3", -1)
        self.refused(8, 1, "0", "1", -1)

    def test_a_ball_that_lands_too_far_from_now(self):
        self.refused(3, 1, "3", "51", -1)
        self.refused(3, 1, "51", "3", -1)
        self.refused(3, 1, "51", "51", -1)
        self.joined(4, 1, "3", "51", "4", "2")
        self.refused(2, 1, "3", "3", -1)
        self.refused(8, 1, "00f", "5", -1)
        self.refused(8, 1, "5", "00f", -1)

    def test_more_than_most_on_a_beat(self):
        self.refused(3, 1, "[21]", "3", -1)
        self.refused(3, 1, "3", "[21]", -1)
        self.refused(3, 2, "[111]", "[111]", -1)
        self.refused(3, 2, "3", "[111]", -1)


if __name__ == "__main__":
    unittest.main()

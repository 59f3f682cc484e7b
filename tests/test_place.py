import unittest
from itertools import product

from jugglebench.bench import count, judge, nth, place
from telling import HIGHEST, right_words, single_patterns, stacked_patterns, text, told

LAST = 4294967295


class PlaceTest(unittest.TestCase):
    def placed(self, high, word, number):
        self.assertEqual(place(high, text(word)), [number])

    def refused(self, high, word, *answer):
        self.assertEqual(place(high, text(word)), list(answer))


class PlacedTest(PlaceTest):
    def test_a_few_that_can_be_told_by_hand(self):
        for number, word in enumerate(["003", "012", "030", "111", "120", "201", "300"]):
            self.placed(3, word, number)
        for number, word in enumerate(["012", "111", "120", "201"]):
            self.placed(2, word, number)
        self.placed(1, "111", 0)

    def test_a_higher_bound_lets_more_stand_before(self):
        # Three balls, two beats: 06, 15, 24, 33, 42, 51, 60.
        self.placed(3, "33", 0)
        self.placed(4, "33", 1)
        self.placed(5, "33", 2)
        for high in range(6, 16):
            self.placed(high, "33", 3)

    def test_the_first_and_the_last(self):
        self.placed(5, "00005", 0)
        self.placed(5, "50000", 30)
        self.placed(15, "0000f", 0)
        self.placed(15, "f0000", 780)
        self.placed(14, "0001e", 0)
        self.placed(14, "e0001", 775)
        self.placed(15, "00aff", 0)
        self.placed(15, "ffa00", 7380)

    def test_no_balls(self):
        for n, high in product(range(1, 6), range(16)):
            self.placed(high, "0" * n, 0)

    def test_a_period_of_1(self):
        for b in range(9):
            for high in range(b, 16):
                self.placed(high, str(b), 0)

    def test_beats_are_those_of_the_text_not_of_its_root(self):
        self.placed(3, "3", 0)
        self.placed(4, "333", right_words(3, 3, 4).index("333"))
        self.placed(5, "5151", right_words(4, 3, 5).index("5151"))
        self.placed(5, "51", 4)

    def test_as_all_rows_of_heights_gone_through_tell(self):
        for n, b, high in [(2, 5, 10), (2, 8, 15), (3, 3, 5), (3, 3, 9), (3, 8, 15), (4, 2, 8), (4, 3, 6), (5, 1, 5),
                           (5, 2, 4), (5, 3, 5), (5, 8, 9)]:
            for number, word in enumerate(right_words(n, b, high)):
                self.placed(high, word, number)

    def test_those_of_five_beats_and_eight_balls(self):
        words = right_words(5, 8, HIGHEST)
        for number in list(range(0, 7381, 67)) + [1, 2, 7378, 7379, 7380]:
            self.placed(HIGHEST, words[number], number)

    def test_place_of_what_nth_answers(self):
        for n, b, high in [(1, 4, 9), (2, 7, 15), (3, 5, 8), (4, 4, 15), (5, 3, 15), (5, 7, 12)]:
            number = count(n, b, high)[0]
            for i in list(range(0, number, 1 + number // 50)) + [number - 1]:
                self.assertEqual(place(high, nth(n, b, high, i)[1:]), [i])

    def test_nth_of_what_place_answers(self):
        words = [word for word in single_patterns() if len(word) <= 5 and judge(text(word))[0] <= 8]
        self.assertGreater(len(words), 100)
        for word in words[::2]:
            judged = judge(text(word))
            for high in (judged[2], HIGHEST):
                number = place(high, text(word))[0]
                self.assertEqual(nth(judged[1], judged[0], high, number), told(word))

    def test_the_last_however_high(self):
        for n, b in product(range(1, 6), range(9)):
            if n * b <= HIGHEST:
                last = "0123456789abcdef"[n * b] + "0" * (n - 1)
                self.placed(HIGHEST, last, (b + 1) ** n - b ** n - 1)


class RefusalTest(PlaceTest):
    def test_more_than_one_throw_on_a_beat(self):
        for word in ("[21]", "[321]", "[11]", "[43]23", "24[54]", "[22]0[11]", "[21]1", "1[21]", "5[21]"):
            for high in (0, 5, 15):
                self.refused(high, word, -1)
        for word in stacked_patterns():
            if judge(text(word))[3] > 1:
                self.refused(HIGHEST, word, -1)

    def test_more_than_five_beats(self):
        self.placed(3, "33333", 0)
        self.refused(3, "333333", -1)
        self.placed(15, "00000", 0)
        self.refused(15, "000000", -1)
        self.refused(15, "441441", -1)
        self.refused(15, "3" * 16, -1)
        for word in single_patterns():
            if len(word) > 5:
                self.refused(HIGHEST, word, -1)

    def test_more_than_eight_balls(self):
        self.placed(15, "8", 0)
        self.refused(15, "9", -1)
        self.refused(15, "f", -1)
        self.placed(8, "88888", 0)
        self.refused(9, "99999", -1)
        self.placed(15, "1f", 0)
        self.refused(15, "3f", -1)
        self.placed(15, "ffa00", 7380)
        self.refused(15, "ffa14", -1)
        self.refused(15, "fff00", -1)

    def test_high_above_15(self):
        self.placed(15, "0", 0)
        self.placed(15, "3", 0)
        for high in (16, 17, 256, LAST - 1, LAST):
            self.refused(high, "0", -1)
            self.refused(high, "3", -1)
            self.refused(high, "531", -1)
            self.refused(high, "88888", -1)

    def test_a_throw_higher_than_high(self):
        self.refused(4, "531", -4)
        self.refused(0, "531", -4)
        self.refused(0, "1", -4)
        self.refused(2, "3", -4)
        self.refused(14, "1f", -4)
        self.refused(14, "f1", -4)
        self.refused(7, "88888", -4)
        self.refused(3, "4040", -4)
        self.refused(5, "060", -4)

    def test_a_throw_as_high_as_high_is_none_of_these(self):
        self.placed(5, "531", 15)
        self.placed(1, "1", 0)
        self.placed(0, "0", 0)
        self.placed(15, "1f", 0)
        self.placed(15, "f1", 14)
        self.placed(6, "060", 4)
        for word in single_patterns():
            judged = judge(text(word))
            if judged[1] <= 5 and judged[0] <= 8 and judged[2] > 0:
                self.assertGreaterEqual(place(judged[2], text(word))[0], 0)
                self.refused(judged[2] - 1, word, -4)

    def test_out_of_bounds_comes_before_a_higher_throw(self):
        self.refused(1, "[21]", -1)
        self.refused(0, "333333", -1)
        self.refused(8, "9", -1)
        self.refused(0, "f", -1)
        self.refused(16, "[21]", -1)
        self.refused(LAST, "9" * 6, -1)

    def test_a_text_without_a_pattern_comes_first(self):
        for high in (0, 5, 15, 16, LAST):
            self.refused(high, "", -6, 0)
            self.refused(high, "3x", -6, 1)
            self.refused(high, "21x", -6, 2)
            self.refused(high, "[30]", -6, 2)
            self.refused(high, "[21]x", -6, 4)
            self.refused(high, "f" * 17, -6, 16)
            self.refused(high, "21", -5, 0)
            self.refused(high, "fe", -5, 0)
            self.refused(high, "1[21]0", -5, 1)
            self.refused(high, "3333333333333330", -5, 2)


if __name__ == "__main__":
    unittest.main()

import unittest
from itertools import product

from jugglebench.bench import count, judge, nth
from telling import HIGHEST, right_words, told

LAST = 4294967295

# Of five beats all rows of heights are gone through only where high is small: there are many.
ALL_OF = [(n, b, high) for n in (1, 2) for b in range(9) for high in range(16)]
ALL_OF += [(3, b, high) for b in range(9) for high in range(0, 16, 3)]
ALL_OF += [(4, b, high) for b in range(9) for high in (b, b + 1, b + 3)] + [(4, 2, 8), (4, 3, 12)]
ALL_OF += [(5, b, high) for b, high in [(0, 0), (1, 5), (2, 4), (3, 5), (4, 6), (8, 8), (8, 9)]]


class NthTest(unittest.TestCase):
    def told_by(self, n, b, high, i, word):
        self.assertEqual(nth(n, b, high, i), told(word))

    def refused(self, n, b, high, i, answer):
        self.assertEqual(nth(n, b, high, i), [answer])

    def all_told(self, n, b, high, words):
        for i, word in enumerate(words):
            self.told_by(n, b, high, i, word)
        for i in (len(words), len(words) + 1, LAST):
            self.refused(n, b, high, i, -4)


class OrderTest(NthTest):
    def test_one_ball(self):
        self.all_told(1, 1, 1, ["1"])
        self.all_told(2, 1, 2, ["02", "11", "20"])
        self.all_told(3, 1, 3, ["003", "012", "030", "111", "120", "201", "300"])

    def test_a_bound_leaves_out_what_is_higher(self):
        self.all_told(2, 2, 4, ["04", "13", "22", "31", "40"])
        self.all_told(2, 2, 3, ["13", "22", "31"])
        self.all_told(2, 2, 2, ["22"])
        self.all_told(2, 2, 1, [])
        self.all_told(3, 1, 2, ["012", "111", "120", "201"])
        self.all_told(3, 1, 1, ["111"])

    def test_three_balls(self):
        self.all_told(3, 3, 5, "045 144 153 225 234 252 315 333 342 414 423 441 450 504 522 531".split())
        self.told_by(3, 3, 9, 0, "009")
        self.told_by(3, 3, 9, 36, "900")

    def test_letters_are_higher_than_the_other_digits(self):
        self.all_told(2, 8, 15, "1f 2e 3d 4c 5b 6a 79 88 97 a6 b5 c4 d3 e2 f1".split())
        self.all_told(2, 8, 10, ["6a", "79", "88", "97", "a6"])
        self.all_told(2, 8, 9, ["79", "88", "97"])

    def test_no_balls(self):
        for n, high in product(range(1, 6), range(16)):
            self.all_told(n, 0, high, ["0" * n])

    def test_a_period_of_1(self):
        for b, high in product(range(9), range(16)):
            self.all_told(1, b, high, [str(b)] if b <= high else [])

    def test_the_first_and_the_last_and_some_between_of_five_beats(self):
        self.told_by(5, 1, 5, 0, "00005")
        self.told_by(5, 1, 5, 1, "00014")
        self.told_by(5, 1, 5, 30, "50000")
        self.told_by(5, 3, 15, 0, "0000f")
        self.told_by(5, 3, 15, 780, "f0000")
        self.refused(5, 3, 15, 781, -4)
        self.told_by(5, 3, 14, 0, "0001e")
        self.told_by(5, 3, 14, 775, "e0001")
        self.refused(5, 3, 14, 776, -4)
        self.told_by(5, 8, 15, 0, "00aff")
        self.told_by(5, 8, 15, 7380, "ffa00")
        self.refused(5, 8, 15, 7381, -4)

    def test_those_of_five_beats_and_eight_balls_as_all_rows_gone_through_tell(self):
        words = right_words(5, 8, HIGHEST)
        self.assertEqual(len(words), 7381)
        for i in list(range(0, 7381, 61)) + [1, 2, 7378, 7379, 7380]:
            self.told_by(5, 8, HIGHEST, i, words[i])

    def test_as_all_rows_of_heights_gone_through_tell(self):
        for n, b, high in ALL_OF:
            self.all_told(n, b, high, right_words(n, b, high))

    def test_each_is_right_of_b_balls_no_throw_above_high(self):
        for n, b, high in [(2, 5, 15), (3, 4, 7), (4, 3, 6), (5, 2, 5), (5, 5, 6)]:
            seen = []
            for i in range(count(n, b, high)[0]):
                answer = nth(n, b, high, i)
                judged = judge(answer[1:])
                self.assertEqual(judged[:2], [b, n])
                self.assertLessEqual(judged[2], high)
                self.assertLessEqual(judged[3], 1)
                seen.append([sign if sign < 58 else sign - 39 for sign in answer[1:]])
            self.assertEqual(seen, sorted(seen))
            self.assertEqual(len({tuple(row) for row in seen}), len(seen))

    def test_however_high(self):
        for n, b in product(range(1, 6), range(9)):
            if n * b <= HIGHEST:
                number = (b + 1) ** n - b ** n
                self.assertEqual(nth(n, b, n * b, number - 1)[0], n)
                self.refused(n, b, n * b, number, -4)
                self.assertEqual(nth(n, b, HIGHEST, number - 1)[0], n)
                self.refused(n, b, HIGHEST, number, -4)


class RefusalTest(NthTest):
    def test_as_many_as_there_are_and_beyond(self):
        for n, b, high in product(range(1, 6), range(9), (0, 3, 8, 15)):
            number = count(n, b, high)[0]
            for i in (number, number + 1, number + 256, 65536, LAST - 1, LAST):
                self.refused(n, b, high, i, -4)
            if number > 0:
                self.assertEqual(nth(n, b, high, number - 1)[0], n)

    def test_none_at_all(self):
        for i in (0, 1, 2, LAST):
            self.refused(1, 1, 0, i, -4)
            self.refused(1, 8, 7, i, -4)
            self.refused(2, 3, 2, i, -4)
            self.refused(5, 8, 0, i, -4)
            self.refused(5, 8, 7, i, -4)

    def test_n_out_of_bounds(self):
        for n, i in product((0, 6, 7, 16, 256, LAST), (0, 1, LAST)):
            self.refused(n, 0, 0, i, -1)
            self.refused(n, 3, 5, i, -1)
            self.refused(n, 8, 15, i, -1)

    def test_b_out_of_bounds(self):
        for b, i in product((9, 10, 16, 256, LAST), (0, 1, LAST)):
            self.refused(1, b, 15, i, -1)
            self.refused(3, b, 5, i, -1)
            self.refused(5, b, 0, i, -1)

    def test_high_out_of_bounds(self):
        for high, i in product((16, 17, 256, LAST), (0, 1, LAST)):
            self.refused(1, 0, high, i, -1)
            self.refused(3, 3, high, i, -1)
            self.refused(5, 8, high, i, -1)

    def test_out_of_bounds_comes_before_none(self):
        self.refused(0, 0, 0, LAST, -1)
        self.refused(6, 8, 0, 0, -1)
        self.refused(1, 9, 0, 0, -1)
        self.refused(1, 0, 16, 1, -1)
        self.refused(0, 9, 16, LAST, -1)
        self.refused(LAST, LAST, LAST, LAST, -1)

    def test_the_edges_themselves_are_none_of_these(self):
        self.told_by(1, 0, 0, 0, "0")
        self.told_by(1, 8, 15, 0, "8")
        self.told_by(5, 0, 15, 0, "00000")
        self.told_by(5, 8, 8, 0, "88888")
        self.told_by(5, 8, 15, 0, "00aff")
        self.refused(5, 8, 0, 0, -4)


if __name__ == "__main__":
    unittest.main()

import unittest

from jugglebench.bench import judge, swap
from telling import DIGITS, HIGHEST, single_patterns, text, told

LAST = 4294967295


def swapped_row(word, i, j):
    """The heights when beats i and j have changed the moments on which their throws land."""
    landing = [beat + DIGITS.index(sign) for beat, sign in enumerate(word)]
    landing[i], landing[j] = landing[j], landing[i]
    return [moment - beat for beat, moment in enumerate(landing)]


def pairs(period):
    return [(i, j) for j in range(period) for i in range(j)]


class SwapTest(unittest.TestCase):
    def swapped(self, i, j, word, answer):
        self.assertEqual(swap(i, j, text(word)), told(answer))

    def refused(self, i, j, word, *answer):
        self.assertEqual(swap(i, j, text(word)), list(answer))


class SwappedTest(SwapTest):
    def test_neighbouring_beats(self):
        self.swapped(0, 1, "33", "42")
        self.swapped(0, 1, "42", "33")
        self.swapped(0, 1, "531", "441")
        self.swapped(1, 2, "531", "522")
        self.swapped(0, 1, "3333", "4233")
        self.swapped(1, 2, "3333", "3423")
        self.swapped(2, 3, "3333", "3342")

    def test_distant_beats(self):
        self.swapped(0, 2, "531", "333")
        self.swapped(0, 2, "333", "531")
        self.swapped(0, 3, "441441", "741141")
        self.swapped(0, 4, "55555", "95551")
        self.swapped(1, 4, "55555", "58552")
        self.swapped(0, 4, "97531", "57535")

    def test_throws_that_land_beyond_the_period(self):
        self.swapped(0, 1, "64", "55")
        self.swapped(0, 1, "f1", "2e")
        self.swapped(0, 1, "2e", "f1")
        self.swapped(0, 1, "99", "a8")

    def test_a_height_of_0_becomes_a_throw(self):
        self.swapped(0, 1, "40", "13")
        self.swapped(0, 2, "330", "231")
        self.swapped(1, 2, "330", "312")
        self.swapped(1, 2, "060", "015")
        self.swapped(0, 2, "f00", "20d")
        self.swapped(0, 2, "4000", "2020")

    def test_a_throw_becomes_a_height_of_0(self):
        self.swapped(0, 1, "13", "40")
        self.swapped(0, 2, "231", "330")
        self.swapped(1, 2, "015", "060")
        self.swapped(0, 1, "11", "20")
        self.swapped(0, 3, "3333", "6330")
        self.swapped(0, 3, "3001", "4000")

    def test_letters(self):
        self.swapped(0, 1, "9999", "a899")
        self.swapped(0, 1, "aa", "b9")
        self.swapped(2, 3, "dddd", "ddec")
        self.swapped(0, 1, "ee", "fd")
        self.swapped(0, 1, "fd", "ee")

    def test_the_longest_period(self):
        self.swapped(0, 1, "3" * 16, "42" + "3" * 14)
        self.swapped(14, 15, "3" * 16, "3" * 14 + "42")
        self.swapped(12, 15, "3" * 16, "3" * 12 + "6330")
        self.swapped(0, 14, "f" + "0" * 14 + "1", "e" + "0" * 13 + "11")
        self.swapped(0, 14, "e" + "0" * 13 + "11", "f" + "0" * 14 + "1")

    def test_what_is_answered_is_right_of_as_many_balls_and_swapped_again_the_pattern(self):
        for word in single_patterns():
            balls = judge(text(word))[0]
            for i, j in pairs(len(word)):
                answer = swap(i, j, text(word))
                if answer != [-3]:
                    self.assertEqual(answer[0], len(word))
                    self.assertEqual(judge(answer[1:])[:2], [balls, len(word)])
                    self.assertEqual(swap(i, j, answer[1:]), told(word))

    def test_as_the_moments_of_landing_tell(self):
        for word in single_patterns():
            for i, j in pairs(len(word)):
                row = swapped_row(word, i, j)
                if min(row) < 0 or max(row) > HIGHEST:
                    self.refused(i, j, word, -3)
                else:
                    self.swapped(i, j, word, "".join(DIGITS[height] for height in row))


class RefusalTest(SwapTest):
    def test_a_height_below_0(self):
        self.refused(0, 1, "00", -3)
        self.refused(0, 1, "04", -3)
        self.refused(0, 2, "144", -3)
        self.refused(0, 3, "2222", -3)
        self.refused(0, 15, "e" * 16, -3)
        self.refused(0, 15, "0" * 16, -3)

    def test_a_height_of_0_itself_is_none_of_these(self):
        self.swapped(0, 1, "1" * 4, "2011")
        self.swapped(0, 2, "2222", "4202")
        self.refused(0, 3, "2222", -3)
        self.swapped(0, 7, "7" * 16, "e777777077777777")
        self.refused(0, 8, "7" * 16, -3)

    def test_a_height_above_15(self):
        self.refused(0, 1, "ff", -3)
        self.refused(0, 2, "eee", -3)
        self.refused(1, 3, "eeee", -3)
        self.refused(0, 8, "8" * 9, -3)
        self.refused(0, 14, "e" * 16, -3)
        self.refused(0, 15, "f" * 16, -3)

    def test_a_height_of_15_itself_is_none_of_these(self):
        self.swapped(0, 1, "eee", "fde")
        self.swapped(0, 2, "ddd", "fdb")
        self.refused(0, 3, "dddd", -3)
        self.swapped(0, 7, "8" * 8, "f8888881")

    def test_not_i_below_j(self):
        for i, j in [(0, 0), (1, 1), (2, 2), (1, 0), (2, 0), (2, 1), (LAST, 0), (LAST, 2), (3, 2)]:
            self.refused(i, j, "333", -1)

    def test_not_j_below_the_period(self):
        for i, j in [(0, 3), (1, 3), (2, 3), (0, 4), (2, 5), (0, LAST), (2, LAST), (3, 4), (LAST - 1, LAST)]:
            self.refused(i, j, "333", -1)
        for i, j in [(LAST, LAST), (LAST, LAST - 1), (3, 3), (4, 3)]:
            self.refused(i, j, "333", -1)

    def test_a_period_of_1_has_no_two_beats(self):
        for i, j in [(0, 0), (0, 1), (1, 0), (1, 2), (0, LAST)]:
            self.refused(i, j, "3", -1)
            self.refused(i, j, "0", -1)

    def test_the_edges_of_the_longest_period(self):
        self.swapped(14, 15, "3" * 16, "3" * 14 + "42")
        self.refused(15, 15, "3" * 16, -1)
        self.refused(14, 16, "3" * 16, -1)
        self.refused(15, 16, "3" * 16, -1)

    def test_the_period_is_that_of_the_text_not_of_its_root(self):
        self.swapped(1, 2, "333", "342")
        self.swapped(2, 3, "5151", "5124")

    def test_more_than_one_throw_on_a_beat(self):
        self.refused(0, 1, "[43]23", -1)
        self.refused(1, 2, "[43]23", -1)
        self.refused(0, 1, "24[54]", -1)
        self.refused(0, 1, "[321][321]", -1)
        self.refused(0, 2, "[22]0[11]", -1)

    def test_out_of_bounds_comes_before_a_height(self):
        self.refused(1, 0, "ff", -1)
        self.refused(0, 2, "ff", -1)
        self.refused(1, 1, "00", -1)
        self.refused(0, 1, "[ff][ff]", -1)
        self.refused(1, 2, "[22]0[11]", -1)

    def test_a_text_without_a_pattern_comes_first(self):
        for i, j in [(0, 1), (1, 0), (0, 2), (LAST, LAST)]:
            self.refused(i, j, "", -6, 0)
            self.refused(i, j, "[33]x", -6, 4)
            self.refused(i, j, "21x", -6, 2)
            self.refused(i, j, "f" * 17, -6, 16)
            self.refused(i, j, "21", -5, 0)
            self.refused(i, j, "fe", -5, 0)
            self.refused(i, j, "1[21]0", -5, 1)


if __name__ == "__main__":
    unittest.main()

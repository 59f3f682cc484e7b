import unittest

from jugglebench.bench import judge, turn
from telling import heights, single_patterns, small_patterns, stacked_patterns, text, told, word_of

LAST = 4294967295


def thrown_from(word, k):
    """The beats of one period that begins on beat k, each asked by itself, told from the highest throw on."""
    beats = heights(word)
    period = len(beats)
    return word_of([sorted(beats[(k + beat) % period], reverse=True) for beat in range(period)])


class TurnTest(unittest.TestCase):
    def turned(self, k, word, answer):
        self.assertEqual(turn(k, text(word)), told(answer))

    def refused(self, k, word, *answer):
        self.assertEqual(turn(k, text(word)), list(answer))

    def test_by_none(self):
        self.turned(0, "3", "3")
        self.turned(0, "531", "531")
        self.turned(0, "153", "153")
        self.turned(0, "24[54]", "24[54]")

    def test_within_the_period(self):
        self.turned(1, "531", "315")
        self.turned(2, "531", "153")
        self.turned(1, "97531", "75319")
        self.turned(4, "97531", "19753")
        self.turned(1, "40", "04")
        self.turned(1, "db97531", "b97531d")

    def test_the_period_itself(self):
        self.turned(1, "3", "3")
        self.turned(3, "531", "531")
        self.turned(2, "40", "40")
        self.turned(16, "3" * 13 + "423", "3" * 13 + "423")

    def test_beyond_the_period(self):
        self.turned(4, "531", "315")
        self.turned(5, "531", "153")
        self.turned(6, "531", "531")
        self.turned(100, "531", "315")
        self.turned(7, "40", "04")
        self.turned(12, "97531", "53197")

    def test_by_the_greatest_numbers(self):
        # 4294967295 modulo 3 is 0, modulo 2 is 1, modulo 16 is 15, modulo 7 is 3.
        self.turned(LAST, "531", "531")
        self.turned(LAST - 1, "531", "153")
        self.turned(LAST - 2, "531", "315")
        self.turned(LAST, "40", "04")
        self.turned(LAST, "f", "f")
        self.turned(LAST, "db97531", "7531db9")
        self.turned(LAST, "f" + "0" * 14 + "1", "1f" + "0" * 14)

    def test_the_longest_period(self):
        word = "3" * 13 + "423"
        for k in range(17):
            self.turned(k, word, word[k:] + word[:k])
        self.turned(1, "[33]" * 16, "[33]" * 16)
        self.turned(15, "[21]1" * 8, "1[21]" * 8)

    def test_the_whole_period_is_told_not_the_root(self):
        self.turned(0, "33", "33")
        self.turned(1, "441441", "414414")
        self.turned(3, "441441", "441441")
        self.turned(1, "0000", "0000")

    def test_several_throws(self):
        self.turned(1, "24[54]", "4[54]2")
        self.turned(2, "24[54]", "[54]24")
        self.turned(1, "[22]0[11]", "0[11][22]")
        self.turned(1, "1[321]2", "[321]21")
        self.turned(2, "1[321]2", "21[321]")

    def test_throws_stand_from_the_highest_on(self):
        self.turned(0, "[12]", "[21]")
        self.turned(0, "[123]", "[321]")
        self.turned(0, "[213]", "[321]")
        self.turned(0, "[131]", "[311]")
        self.turned(1, "24[45]", "4[54]2")
        self.turned(2, "24[45]", "[54]24")
        self.turned(1, "[9af][9fa]", "[fa9][fa9]")
        self.turned(1, "1[231]2", "[321]21")

    def test_a_text_without_a_pattern(self):
        for k in (0, 1, 2, 17, LAST):
            self.refused(k, "", -6, 0)
            self.refused(k, "3x", -6, 1)
            self.refused(k, "21x", -6, 2)
            self.refused(k, "[33", -6, 3)
            self.refused(k, "[30]", -6, 2)
            self.refused(k, "3" * 17, -6, 16)

    def test_a_pattern_that_is_not_right(self):
        # The beat is that of the text handed in, not of what it would be when it's turned.
        for k in (0, 1, 2, 17, LAST):
            self.refused(k, "21", -5, 0)
            self.refused(k, "1[21]0", -5, 1)
            self.refused(k, "3333333333333330", -5, 2)

    def test_what_is_answered_is_right_and_of_as_many_balls(self):
        for word in small_patterns() + single_patterns() + stacked_patterns():
            for k in (0, 1, 2, LAST):
                answer = turn(k, text(word))
                self.assertEqual(judge(answer[1:]), judge(text(word)))

    def test_as_the_beats_asked_one_by_one_tell(self):
        for word in small_patterns() + single_patterns() + stacked_patterns():
            for k in (0, 1, 2, 3, 4, 15, 16, 17, LAST - 1, LAST):
                self.turned(k, word, thrown_from(word, k))


if __name__ == "__main__":
    unittest.main()

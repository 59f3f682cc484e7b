import unittest

from jugglebench.bench import judge, lift
from telling import DIGITS, HIGHEST, heights, single_patterns, small_patterns, stacked_patterns, text, told, word_of
from telling import wrong_beat

LAST = 4294967295


def lifted_beats(word, d):
    beats = heights(word)
    single = all(len(beat) < 2 for beat in beats)
    lifted = []
    for beat in beats:
        if single and not beat and d > 0:
            lifted.append([d])
        else:
            lifted.append(sorted([height + d for height in beat], reverse=True))
    return lifted


class LiftTest(unittest.TestCase):
    def lifted(self, d, word, answer):
        self.assertEqual(lift(d, text(word)), told(answer))

    def refused(self, d, word, *answer):
        self.assertEqual(lift(d, text(word)), list(answer))


class SingleTest(LiftTest):
    def test_by_none(self):
        self.lifted(0, "531", "531")
        self.lifted(0, "40", "40")
        self.lifted(0, "0", "0")
        self.lifted(0, "0000", "0000")
        self.lifted(0, "f", "f")

    def test_by_one(self):
        self.lifted(1, "3", "4")
        self.lifted(1, "531", "642")
        self.lifted(1, "97531", "a8642")
        self.lifted(1, "db97531", "eca8642")

    def test_by_more(self):
        self.lifted(2, "531", "753")
        self.lifted(5, "441", "996")
        self.lifted(6, "97531", "fdb97")
        self.lifted(10, "531", "fdb")
        self.lifted(14, "1", "f")

    def test_beats_without_a_throw_have_one(self):
        self.lifted(1, "0", "1")
        self.lifted(1, "40", "51")
        self.lifted(1, "501", "612")
        self.lifted(3, "330", "663")
        self.lifted(9, "0000", "9999")
        self.lifted(11, "40", "fb")
        self.lifted(1, "e" + "0" * 13, "f" + "1" * 13)

    def test_by_fifteen(self):
        self.lifted(15, "0", "f")
        self.lifted(15, "000", "fff")
        self.lifted(15, "0" * 16, "f" * 16)
        self.refused(15, "1", -3)
        self.refused(15, "40", -3)

    def test_a_period_of_16(self):
        self.lifted(1, "3" * 13 + "423", "4" * 13 + "534")
        self.lifted(12, "3" * 16, "f" * 16)
        self.lifted(11, "3" * 13 + "423", "e" * 13 + "fde")
        self.refused(12, "3" * 13 + "423", -3)

    def test_the_whole_period_is_told_not_the_root(self):
        self.lifted(1, "33", "44")
        self.lifted(1, "441441", "552552")

    def test_a_height_above_15(self):
        self.refused(1, "f", -3)
        self.refused(13, "3", -3)
        self.refused(15, "f", -3)
        self.refused(11, "531", -3)
        self.refused(11, "153", -3)
        self.refused(1, "f1", -3)
        self.refused(1, "1f", -3)

    def test_a_height_of_15_itself_is_none_of_these(self):
        self.lifted(0, "f1", "f1")
        self.lifted(1, "e", "f")
        self.lifted(12, "3", "f")
        self.lifted(10, "531", "fdb")
        self.lifted(10, "153", "bfd")

    def test_it_has_d_balls_more(self):
        for word in single_patterns():
            before = judge(text(word))
            for d in range(HIGHEST - before[2] + 1):
                answer = lift(d, text(word))
                self.assertEqual(judge(answer[1:])[:3], [before[0] + d, before[1], before[2] + d])

    def test_as_each_height_by_itself_tells(self):
        for word in single_patterns():
            row = [DIGITS.index(sign) for sign in word]
            for d in range(16):
                if max(row) + d > HIGHEST:
                    self.refused(d, word, -3)
                else:
                    self.lifted(d, word, "".join(DIGITS[height + d] for height in row))


class SeveralTest(LiftTest):
    def test_by_none(self):
        self.lifted(0, "[21]", "[21]")
        self.lifted(0, "24[54]", "24[54]")
        self.lifted(0, "[22]0[11]", "[22]0[11]")
        self.lifted(0, "[fff]", "[fff]")

    def test_as_many_throws_on_each_beat(self):
        self.lifted(1, "[21]", "[32]")
        self.lifted(2, "[321]", "[543]")
        self.lifted(5, "[31][33]", "[86][88]")
        self.lifted(1, "[33]" * 16, "[44]" * 16)

    def test_by_a_whole_period(self):
        self.lifted(3, "24[54]", "57[87]")
        self.lifted(6, "24[54]", "8a[ba]")
        self.lifted(9, "24[54]", "bd[ed]")
        self.lifted(3, "1[321]2", "4[654]5")
        self.lifted(2, "5[21]", "7[43]")

    def test_by_what_throws_as_many_again(self):
        self.lifted(2, "1[21]1[21]", "3[43]3[43]")
        self.lifted(3, "24[54]24[54]", "57[87]57[87]")

    def test_beats_without_a_throw_have_none(self):
        self.lifted(3, "[22]0[11]", "[55]0[44]")
        self.lifted(2, "[22]0", "[44]0")
        self.lifted(12, "[33]00", "[ff]00")
        self.lifted(4, "[42]0[421]3", "[86]0[865]7")

    def test_throws_stand_from_the_highest_on(self):
        self.lifted(0, "[12]", "[21]")
        self.lifted(1, "[132]", "[432]")
        self.lifted(3, "24[45]", "57[87]")

    def test_what_is_not_right(self):
        self.refused(1, "24[54]", -3)
        self.refused(2, "24[54]", -3)
        self.refused(4, "24[54]", -3)
        self.refused(1, "[22]0[11]", -3)
        self.refused(2, "[22]0[11]", -3)
        self.refused(1, "[22]0", -3)
        self.refused(1, "5[21]", -3)
        self.refused(15, "[21]", -3)

    def test_a_height_above_15(self):
        self.refused(14, "[21]", -3)
        self.refused(13, "[321]", -3)
        self.refused(1, "[fff]", -3)
        self.refused(12, "24[54]", -3)
        self.refused(3, "[d1][1d]", -3)

    def test_a_height_of_15_itself_is_none_of_these(self):
        self.lifted(13, "[21]", "[fe]")
        self.lifted(12, "[321]", "[fed]")
        self.lifted(14, "[11]", "[ff]")
        self.lifted(2, "[d1][1d]", "[f3][f3]")

    def test_how_many_balls_it_has_then(self):
        for d, word, balls in [(1, "[21]", 5), (2, "[321]", 12), (3, "24[54]", 9), (3, "[22]0[11]", 6),
                               (2, "[22]0", 4)]:
            self.assertEqual(judge(lift(d, text(word))[1:])[0], balls)

    def test_as_time_gone_through_beat_by_beat_tells(self):
        for word in small_patterns() + stacked_patterns() + ["24[54]24[54]", "1[21]1[21]", "[22]0[22]0"]:
            for d in range(16):
                beats = lifted_beats(word, d)
                if max([0] + sum(beats, [])) > HIGHEST or wrong_beat(beats) is not None:
                    self.refused(d, word, -3)
                else:
                    self.lifted(d, word, word_of(beats))
                    throws = sum(len(beat) for beat in beats)
                    more = judge(text(word_of(beats)))[0] - judge(text(word))[0]
                    self.assertEqual(more * len(beats), d * throws)


class RefusalTest(LiftTest):
    def test_above_15(self):
        for d in (16, 17, 31, 32, 255, 256, 65536, LAST - 1, LAST):
            for word in ("0", "000", "1", "531", "f", "[21]", "24[54]", "0" * 16):
                self.refused(d, word, -1)

    def test_15_itself_is_none_of_these(self):
        self.lifted(15, "0", "f")
        self.refused(15, "1", -3)

    def test_above_15_comes_before_a_height_and_what_is_not_right(self):
        self.refused(16, "f", -1)
        self.refused(16, "[fff]", -1)
        self.refused(16, "24[54]", -1)
        self.refused(16, "[22]0", -1)

    def test_a_text_without_a_pattern_comes_first(self):
        for d in (0, 1, 15, 16, LAST):
            self.refused(d, "", -6, 0)
            self.refused(d, "3x", -6, 1)
            self.refused(d, "21x", -6, 2)
            self.refused(d, "[30]", -6, 2)
            self.refused(d, "f" * 17, -6, 16)
            self.refused(d, "21", -5, 0)
            self.refused(d, "fe", -5, 0)
            self.refused(d, "1[21]0", -5, 1)

    def test_what_is_lifted_must_be_right_before(self):
        # Lifted by 1 these would be right, or no wronger than they are.
        self.refused(1, "10", -5, 0)
        self.refused(1, "12", -5, 0)


if __name__ == "__main__":
    unittest.main()

import unittest

from jugglebench.bench import judge
from telling import heights, small_patterns, text


class JudgeTest(unittest.TestCase):
    def judged(self, word, *answer):
        self.assertEqual(judge(text(word)), list(answer))

    def test_single_throws(self):
        self.judged("3", 3, 1, 3, 1, 1)
        self.judged("531", 3, 3, 5, 1, 3)
        self.judged("315", 3, 3, 5, 1, 3)
        self.judged("97531", 5, 5, 9, 1, 5)
        self.judged("1", 1, 1, 1, 1, 1)

    def test_beats_with_none(self):
        self.judged("40", 2, 2, 4, 1, 2)
        self.judged("50505", 3, 5, 5, 1, 5)
        self.judged("501", 2, 3, 5, 1, 3)
        self.judged("00f", 5, 3, 15, 1, 3)

    def test_no_throw_at_all(self):
        self.judged("0", 0, 1, 0, 0, 1)
        self.judged("000", 0, 3, 0, 0, 1)
        self.judged("0" * 16, 0, 16, 0, 0, 1)

    def test_two_and_three_throws(self):
        self.judged("[21]", 3, 1, 2, 2, 1)
        self.judged("[43]23", 4, 3, 4, 2, 3)
        self.judged("24[54]", 5, 3, 5, 2, 3)
        self.judged("[321]", 6, 1, 3, 3, 1)
        self.judged("[22]0[11]", 2, 3, 2, 2, 3)
        self.judged("1[321]2", 3, 3, 3, 3, 3)

    def test_the_greatest_height_stands_anywhere(self):
        self.judged("[12]", 3, 1, 2, 2, 1)
        self.judged("[15]", 6, 1, 5, 2, 1)
        self.judged("f[12]", 9, 2, 15, 2, 2)

    def test_a_root_told_several_times(self):
        self.judged("33", 3, 2, 3, 1, 1)
        self.judged("441441", 3, 6, 4, 1, 3)
        self.judged("51515151", 3, 8, 5, 1, 2)
        self.judged("[43][34]", 7, 2, 4, 2, 1)
        self.judged("[123][231][312][321]", 6, 4, 3, 3, 1)
        self.judged("1[21]1[12]", 2, 4, 2, 2, 2)

    def test_a_part_that_comes_again_but_not_throughout(self):
        self.judged("44144133", 3, 8, 4, 1, 8)
        self.judged("33342", 3, 5, 4, 1, 5)
        self.judged("4242423", 3, 7, 4, 1, 7)
        self.judged("44133441", 3, 8, 4, 1, 8)

    def test_the_longest_period(self):
        self.judged("3" * 16, 3, 16, 3, 1, 1)
        self.judged("51" * 8, 3, 16, 5, 1, 2)
        self.judged("3" * 13 + "423", 3, 16, 4, 1, 16)
        self.judged("3" * 13 + "531", 3, 16, 5, 1, 16)

    def test_letters(self):
        self.judged("f", 15, 1, 15, 1, 1)
        self.judged("a", 10, 1, 10, 1, 1)
        self.judged("b", 11, 1, 11, 1, 1)
        self.judged("c", 12, 1, 12, 1, 1)
        self.judged("d", 13, 1, 13, 1, 1)
        self.judged("e", 14, 1, 14, 1, 1)
        self.judged("[fff]", 45, 1, 15, 3, 1)
        self.judged("[fed][bcd]", 39, 2, 15, 3, 2)

    def test_sixty_four_bytes(self):
        self.judged("[33]" * 16, 6, 16, 3, 2, 1)

    def test_a_right_one_has_a_whole_number_of_balls(self):
        for word in small_patterns():
            beats = heights(word)
            total = sum(sum(beat) for beat in beats)
            answer = judge(text(word))
            self.assertEqual(answer[0] * len(beats), total)
            self.assertEqual(answer[1], len(beats))
            self.assertEqual(answer[2], max([0] + sum(beats, [])))
            self.assertEqual(answer[3], max(len(beat) for beat in beats))

    def test_whole_numbers_alone(self):
        for word in ("0", "3", "[21]"):
            self.assertEqual({type(number) for number in judge(text(word))}, {int})


if __name__ == "__main__":
    unittest.main()

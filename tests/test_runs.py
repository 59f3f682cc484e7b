import unittest

from jugglebench.bench import judge, runs
from telling import heights, single_patterns, small_patterns, stacked_patterns, text, thrown_balls

LAST = 4294967295

LONG = ["3" * 16, "f" * 16, "0" * 16, "3" * 13 + "423", "f" + "0" * 14 + "1", "[33]" * 16, "[321]" * 12, "[fff]" * 12]
SEVERAL = ["[21]", "[12]", "[321]", "[11]", "[fff]", "24[54]", "[22]0[11]", "[43]23", "1[321]2", "[d1][1d]", "5[21]"]


def answer_of(told_beats):
    answer = [len(told_beats)]
    for throws in told_beats:
        answer.append(len(throws))
        for ball, height in throws:
            answer += [ball, height]
    return answer


def beats_told(answer):
    """Of each beat its pairs of a ball and a height; nothing stands behind the last beat."""
    beats = []
    place = 1
    for beat in range(answer[0]):
        end = place + 1 + 2 * answer[place]
        beats.append(list(zip(answer[place + 1:end:2], answer[place + 2:end:2])))
        place = end
    if place != len(answer):
        raise ValueError("more is told than there are beats")
    return beats


def moments_of(beats):
    """Of each ball when it is thrown and how high."""
    found = {}
    for moment, throws in enumerate(beats):
        for ball, height in throws:
            found.setdefault(ball, []).append((moment, height))
    return found


def all_patterns():
    return small_patterns() + single_patterns()[::5] + stacked_patterns()[::3] + LONG + SEVERAL


class RunsTest(unittest.TestCase):
    def told(self, since, beats, word, *told_beats):
        self.assertEqual(runs(since, beats, text(word)), answer_of(told_beats))

    def refused(self, since, beats, word, *answer):
        self.assertEqual(runs(since, beats, text(word)), list(answer))


class ThrownTest(RunsTest):
    def test_the_numbers_themselves(self):
        self.assertEqual(runs(0, 2, text("3")), [2, 1, 0, 3, 1, 1, 3])
        self.assertEqual(runs(0, 2, text("40")), [2, 1, 0, 4, 0])
        self.assertEqual(runs(0, 1, text("[21]")), [1, 2, 0, 2, 1, 1])
        self.assertEqual(runs(7, 3, text("0")), [3, 0, 0, 0])
        self.assertEqual(runs(7, 0, text("3")), [0])

    def test_single_throws(self):
        self.told(0, 4, "3", [(0, 3)], [(1, 3)], [(2, 3)], [(0, 3)])
        self.told(0, 6, "531", [(0, 5)], [(1, 3)], [(2, 1)], [(2, 5)], [(1, 3)], [(0, 1)])
        self.told(0, 6, "441", [(0, 4)], [(1, 4)], [(2, 1)], [(2, 4)], [(0, 4)], [(1, 1)])
        self.told(0, 4, "51", [(0, 5)], [(1, 1)], [(1, 5)], [(2, 1)])

    def test_beats_without_a_throw(self):
        self.told(0, 5, "40", [(0, 4)], [], [(1, 4)], [], [(0, 4)])
        self.told(0, 5, "04", [], [(0, 4)], [], [(1, 4)], [])
        self.told(0, 4, "501", [(0, 5)], [], [(1, 1)], [(1, 5)])
        self.told(2, 2, "00f", [(0, 15)], [])
        self.told(0, 4, "[22]0", [(0, 2), (1, 2)], [], [(0, 2), (1, 2)], [])

    def test_two_throws_on_a_beat(self):
        self.told(0, 4, "[21]", [(0, 2), (1, 1)], [(1, 2), (2, 1)], [(0, 2), (2, 1)], [(1, 2), (2, 1)])
        self.told(0, 4, "[12]", [(0, 2), (1, 1)], [(1, 2), (2, 1)], [(0, 2), (2, 1)], [(1, 2), (2, 1)])
        self.told(0, 7, "24[54]", [(0, 2)], [(1, 4)], [(0, 5), (2, 4)], [(3, 2)], [(4, 4)], [(1, 5), (3, 4)], [(2, 2)])
        self.told(0, 2, "[33]", [(0, 3), (1, 3)], [(2, 3), (3, 3)])

    def test_three_throws_on_a_beat(self):
        self.told(0, 4, "[321]", [(0, 3), (1, 2), (2, 1)], [(2, 3), (3, 2), (4, 1)], [(1, 3), (4, 2), (5, 1)],
                  [(0, 3), (3, 2), (5, 1)])
        self.told(0, 2, "[111]", [(0, 1), (1, 1), (2, 1)], [(0, 1), (1, 1), (2, 1)])
        self.told(14, 2, "[fff]", [(42, 15), (43, 15), (44, 15)], [(0, 15), (1, 15), (2, 15)])

    def test_a_pattern_without_balls(self):
        for word in ("0", "000", "0" * 16):
            for since, beats in [(0, 0), (0, 1), (0, 40), (5, 7), (200, 40)]:
                self.told(since, beats, word, *[[]] * beats)

    def test_a_period_of_1(self):
        for balls, sign in enumerate("123456789abcdef", 1):
            self.told(0, 40, sign, *[[(moment % balls, balls)] for moment in range(40)])
            self.told(200, 40, sign, *[[(moment % balls, balls)] for moment in range(200, 240)])

    def test_a_period_of_16(self):
        self.told(0, 5, "3" * 16, [(0, 3)], [(1, 3)], [(2, 3)], [(0, 3)], [(1, 3)])
        self.told(12, 5, "3" * 13 + "423", [(0, 3)], [(1, 4)], [(2, 2)], [(0, 3)], [(2, 3)])
        self.told(0, 17, "f" + "0" * 14 + "1", [(0, 15)], *[[]] * 14, [(0, 1)], [(0, 15)])
        self.told(15, 2, "[33]" * 16, [(0, 3), (1, 3)], [(2, 3), (3, 3)])


class SinceTest(RunsTest):
    def test_within_the_period(self):
        self.told(1, 3, "531", [(1, 3)], [(2, 1)], [(2, 5)])
        self.told(2, 2, "531", [(2, 1)], [(2, 5)])
        self.told(2, 1, "24[54]", [(0, 5), (2, 4)])

    def test_beyond_the_period(self):
        self.told(3, 3, "531", [(2, 5)], [(1, 3)], [(0, 1)])
        self.told(5, 2, "24[54]", [(1, 5), (3, 4)], [(2, 2)])
        self.told(4, 1, "3", [(1, 3)])

    def test_balls_are_numbered_from_beat_0_on_whatever_since_is(self):
        self.told(1, 1, "3", [(1, 3)])
        self.told(200, 3, "3", [(2, 3)], [(0, 3)], [(1, 3)])
        self.told(199, 2, "40", [], [(0, 4)])
        self.told(198, 3, "40", [(1, 4)], [], [(0, 4)])

    def test_no_beats(self):
        for since in (0, 1, 7, 199, 200):
            for word in ("3", "0", "[321]", "24[54]", "3" * 16):
                self.refused(since, 0, word, 0)

    def test_the_edges(self):
        for word in ("3", "531", "24[54]", "[321]", "501", "f"):
            for since in (0, 1, 199, 200):
                for beats in (0, 1, 2, 39, 40):
                    self.told(since, beats, word, *thrown_balls(heights(word), since, beats))

    def test_a_part_of_the_whole(self):
        for word in all_patterns()[::9]:
            whole = []
            for since in range(0, 240, 40):
                whole += beats_told(runs(since, 40, text(word)))
            for since, beats in [(0, 1), (1, 40), (7, 13), (41, 3), (160, 40), (199, 40), (200, 17)]:
                self.told(since, beats, word, *whole[since:since + beats])


class BallsTest(RunsTest):
    def test_as_each_ball_followed_tells(self):
        for number, word in enumerate(all_patterns()):
            since = number * 7 % 201
            self.told(0, 40, word, *thrown_balls(heights(word), 0, 40))
            self.told(since, 40, word, *thrown_balls(heights(word), since, 40))

    def test_each_ball_is_thrown_again_as_many_beats_later_and_not_between(self):
        for number, word in enumerate(all_patterns()):
            beats = beats_told(runs(number * 11 % 201, 40, text(word)))
            found = moments_of(beats)
            self.assertEqual(sorted(found), list(range(judge(text(word))[0])))
            for throws in found.values():
                for (moment, height), (following, other) in zip(throws, throws[1:]):
                    self.assertEqual(following, moment + height)
                moment, height = throws[-1]
                self.assertGreaterEqual(moment + height, 40)

    def test_each_beat_has_the_throws_that_the_text_tells(self):
        for number, word in enumerate(all_patterns()):
            since = number * 13 % 201
            pattern = heights(word)
            for moment, throws in enumerate(beats_told(runs(since, 40, text(word))), since):
                wanted = sorted(pattern[moment % len(pattern)], reverse=True)
                self.assertEqual([height for ball, height in throws], wanted)

    def test_of_those_on_one_beat_the_least_number_is_thrown_the_highest(self):
        for word in SEVERAL + stacked_patterns()[::3]:
            for throws in beats_told(runs(31, 40, text(word))):
                balls = [ball for ball, height in throws]
                self.assertEqual(balls, sorted(set(balls)))
                self.assertEqual([height for ball, height in throws], sorted([h for b, h in throws], reverse=True))

    def test_balls_are_numbered_as_they_land(self):
        for word in all_patterns():
            first = moments_of(beats_told(runs(0, 40, text(word))))
            moments = [first[ball][0][0] for ball in sorted(first)]
            self.assertEqual(moments, sorted(moments))
            self.assertTrue(all(moment < 15 for moment in moments))


class RefusalTest(RunsTest):
    def test_since_above_200(self):
        for since in (201, 202, 256, 456, 65736, LAST - 1, LAST):
            for beats in (0, 1, 40):
                for word in ("3", "0", "24[54]", "3" * 16):
                    self.refused(since, beats, word, -1)

    def test_beats_above_40(self):
        for beats in (41, 42, 256, 296, 65576, LAST - 1, LAST):
            for since in (0, 1, 200):
                for word in ("3", "0", "24[54]", "3" * 16):
                    self.refused(since, beats, word, -1)

    def test_both(self):
        self.refused(201, 41, "3", -1)
        self.refused(LAST, LAST, "24[54]", -1)

    def test_the_edges_themselves_are_none_of_these(self):
        self.told(200, 40, "3", *[[(moment % 3, 3)] for moment in range(200, 240)])
        self.told(200, 0, "3")

    def test_a_text_without_a_pattern_comes_first(self):
        for since, beats in [(0, 0), (0, 1), (200, 40), (201, 1), (0, 41), (LAST, LAST)]:
            self.refused(since, beats, "", -6, 0)
            self.refused(since, beats, "3x", -6, 1)
            self.refused(since, beats, "21x", -6, 2)
            self.refused(since, beats, "[30]", -6, 2)
            self.refused(since, beats, "f" * 17, -6, 16)
            self.refused(since, beats, "21", -5, 0)
            self.refused(since, beats, "1[21]0", -5, 1)
            self.refused(since, beats, "3333333333333330", -5, 2)


if __name__ == "__main__":
    unittest.main()

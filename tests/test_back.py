import unittest

from jugglebench.bench import back, judge
from telling import HIGHEST, heights, single_patterns, small_patterns, stacked_patterns, text, told, word_of

def landing_heights(beats, moment):
    """The heights of all throws that land on a beat; time has no beginning."""
    landing = []
    for thrown in range(moment - HIGHEST, moment):
        landing += [height for height in beats[thrown % len(beats)] if thrown + height == moment]
    return sorted(landing, reverse=True)


def patterns():
    return small_patterns() + single_patterns() + stacked_patterns()


def highest_first(word):
    return word_of([sorted(beat, reverse=True) for beat in heights(word)])


class BackTest(unittest.TestCase):
    def seen(self, word, answer):
        self.assertEqual(back(text(word)), told(answer))

    def refused(self, word, *answer):
        self.assertEqual(back(text(word)), list(answer))

    def test_single_throws(self):
        self.seen("531", "153")
        self.seen("441", "144")
        self.seen("744", "447")
        self.seen("423", "234")
        self.seen("51", "15")
        self.seen("97531", "19753")
        self.seen("db97531", "1db9753")
        self.seen("42334233423", "23342334234")

    def test_it_begins_with_the_beat_on_which_beat_0_is_seen_from_behind(self):
        # Not only the right row of heights: each turn of it is another answer.
        self.seen("531", "153")
        self.seen("315", "315")
        self.seen("153", "531")
        self.seen("40", "40")
        self.seen("04", "04")

    def test_beats_with_none(self):
        self.seen("501", "150")
        self.seen("330", "303")
        self.seen("060", "006")
        self.seen("1300", "3001")
        self.seen("4000", "4000")
        self.seen("00f", "0f0")
        self.seen("000", "000")

    def test_two_throws_on_a_beat(self):
        self.seen("[43]23", "[32]34")
        self.seen("24[54]", "4[42]5")
        self.seen("5[21]", "1[52]")
        self.seen("3[33]3", "33[33]")
        self.seen("[33]03", "[33]30")
        self.seen("[22]0[11]", "[11][22]0")
        self.seen("[f1][3d]", "[d3][f1]")

    def test_three_throws_on_a_beat(self):
        self.seen("1[321]2", "21[321]")
        self.seen("[42]0[421]3", "[42]1[432]0")
        self.seen("[fed][bcd]", "[edb][fdc]")

    def test_throws_stand_from_the_highest_on(self):
        self.seen("[12]", "[21]")
        self.seen("[123]", "[321]")
        self.seen("[34]23", "[32]34")
        self.seen("24[45]", "4[42]5")
        self.seen("1[231]2", "21[321]")

    def test_a_period_of_1(self):
        self.seen("0", "0")
        self.seen("1", "1")
        self.seen("3", "3")
        self.seen("f", "f")
        self.seen("[21]", "[21]")
        self.seen("[fff]", "[fff]")

    def test_a_period_of_16(self):
        self.seen("3" * 16, "3" * 16)
        self.seen("0" * 16, "0" * 16)
        self.seen("3" * 13 + "423", "2" + "3" * 14 + "4")
        self.seen("f" + "0" * 14 + "1", "1f" + "0" * 14)
        self.seen("1[21]" * 8, "1[21]" * 8)
        self.seen("[33]" * 16, "[33]" * 16)

    def test_the_whole_period_is_told_not_the_root(self):
        self.seen("33", "33")
        self.seen("441441", "144144")
        self.seen("[21][12]", "[21][21]")

    def test_a_text_without_a_pattern(self):
        self.refused("", -6, 0)
        self.refused("3x", -6, 1)
        self.refused("21x", -6, 2)
        self.refused("[33", -6, 3)
        self.refused("3[3]", -6, 3)
        self.refused("3" * 17, -6, 16)

    def test_a_pattern_that_is_not_right(self):
        self.refused("21", -5, 0)
        self.refused("1[21]0", -5, 1)
        self.refused("3333333333333330", -5, 2)

    def test_as_the_throws_that_land_tell(self):
        for word in patterns():
            beats = heights(word)
            answer = back(text(word))
            mirrored = heights("".join(chr(byte) for byte in answer[1:]))
            self.assertEqual(len(mirrored), len(beats))
            for moment in range(len(beats)):
                thrown = sorted(beats[-moment % len(beats)], reverse=True)
                self.assertEqual(landing_heights(mirrored, moment), thrown)
            self.assertEqual(answer, told(highest_first(word_of(mirrored))))

    def test_what_is_answered_is_right_and_of_as_many_balls(self):
        for word in patterns():
            self.assertEqual(judge(back(text(word))[1:]), judge(text(word)))

    def test_seen_backwards_twice_it_is_the_pattern_again(self):
        for word in patterns():
            self.assertEqual(back(back(text(word))[1:]), told(highest_first(word)))


if __name__ == "__main__":
    unittest.main()

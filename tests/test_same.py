import unittest
from itertools import product
from math import lcm

from jugglebench.bench import form, judge, same, turn
from telling import heights, single_patterns, small_patterns, stacked_patterns, text

FAULTS = [("", -6, 0), ("3x", -6, 1), ("21x", -6, 2), ("[3", -6, 2), ("[30]", -6, 2), ("f" * 17, -6, 16)]
WRONG = [("21", -5, 0), ("1[21]0", -5, 1), ("3333333333333330", -5, 2), ("[42]1", -5, 0)]


def is_same(word, other):
    """Whether the one, told over and over, is the other from some beat on."""
    one = [sorted(beat) for beat in heights(word)]
    two = [sorted(beat) for beat in heights(other)]
    whole = lcm(len(one), len(two))
    return any(all(one[(moment + shift) % len(one)] == two[moment % len(two)] for moment in range(whole))
               for shift in range(len(one)))


class SameTest(unittest.TestCase):
    def alike(self, word, other):
        self.assertEqual(same(text(word), text(other)), [1])
        self.assertEqual(same(text(other), text(word)), [1])

    def unlike(self, word, other):
        self.assertEqual(same(text(word), text(other)), [0])
        self.assertEqual(same(text(other), text(word)), [0])

    def refused(self, word, other, *answer):
        self.assertEqual(same(text(word), text(other)), list(answer))


class AnswerTest(SameTest):
    def test_a_text_and_itself(self):
        for word in ("0", "3", "531", "000", "[321]", "24[54]", "3" * 16, "[33]" * 16):
            self.alike(word, word)
        handed = text("24[45]")
        self.assertEqual(same(handed, handed), [1])

    def test_a_pattern_and_its_turns(self):
        self.alike("531", "315")
        self.alike("531", "153")
        self.alike("441", "144")
        self.alike("24[54]", "[54]24")
        self.alike("24[54]", "4[54]2")
        self.alike("40", "04")
        self.alike("3" * 13 + "423", "423" + "3" * 13)

    def test_told_once_and_several_times_over(self):
        self.alike("3", "33")
        self.alike("3", "3" * 16)
        self.alike("33", "333")
        self.alike("51", "5151")
        self.alike("531", "531531")
        self.alike("441441", "441" * 5)
        self.alike("0", "0" * 16)
        self.alike("[21]", "[21][21]")
        self.alike("24[54]", "24[54]" * 3)

    def test_turned_and_told_several_times_over(self):
        self.alike("531", "153153")
        self.alike("414" * 5, "144144")
        self.alike("144144", "441")
        self.alike("0404", "404040")

    def test_throws_of_a_beat_told_in_another_order(self):
        self.alike("[21]", "[12]")
        self.alike("24[54]", "24[45]")
        for word in ("[132]", "[213]", "[231]", "[312]", "[321]"):
            self.alike("[123]", word)
        self.alike("24[54]24[45]", "[45]24")

    def test_as_many_balls_and_beats_that_are_not_the_same(self):
        self.unlike("531", "441")
        self.unlike("531", "522")
        self.unlike("531", "450")
        self.unlike("423", "333")
        self.unlike("51", "42")
        self.unlike("24[54]", "555")
        self.unlike("[31][31]", "[22][22]")
        self.unlike("[22]0", "22")
        self.unlike("5313", "4413")
        self.unlike("40", "22")

    def test_the_same_beats_in_another_order(self):
        self.unlike("147", "741")
        self.unlike("174", "471")
        self.unlike("5304", "3405")
        self.unlike("045003", "040035")
        self.alike("147", "714")

    def test_not_as_many_balls(self):
        self.unlike("3", "4")
        self.unlike("531", "642")
        self.unlike("0", "1")
        self.unlike("[21]", "[31]")

    def test_not_as_many_beats(self):
        self.unlike("3", "42")
        self.unlike("33", "531")
        self.unlike("423", "4233")
        self.unlike("531531", "531441")

    def test_two_beats_of_one_and_one_of_two(self):
        self.unlike("[22]", "22")
        self.unlike("[33]", "33")
        self.unlike("[11]", "2")

    def test_as_time_gone_through_beat_by_beat_tells(self):
        words = small_patterns()[::3] + single_patterns()[::11] + stacked_patterns()[::11]
        found = {0: 0, 1: 0}
        for word, other in product(words, words):
            answer = 1 if is_same(word, other) else 0
            found[answer] += 1
            self.assertEqual(same(text(word), text(other)), [answer])
        self.assertGreater(found[1], len(words))

    def test_a_pattern_its_turns_and_its_form(self):
        for word in small_patterns() + single_patterns()[::3] + stacked_patterns()[::3]:
            self.assertEqual(same(text(word), form(text(word))[1:]), [1])
            for k in range(judge(text(word))[1]):
                self.assertEqual(same(turn(k, text(word))[1:], text(word)), [1])


class RefusalTest(SameTest):
    def test_the_first_text(self):
        for word, *answer in FAULTS + WRONG:
            for other in ("3", "531", "24[54]"):
                self.refused(word, other, *answer)

    def test_the_second_text(self):
        for other, *answer in FAULTS + WRONG:
            for word in ("3", "531", "24[54]"):
                self.refused(word, other, *answer)

    def test_the_first_text_comes_before_the_second(self):
        for (word, *answer), (other, *later) in product(FAULTS + WRONG, FAULTS + WRONG):
            self.refused(word, other, *answer)

    def test_one_wrong_text_and_itself(self):
        self.refused("21", "21", -5, 0)
        self.refused("3x", "3x", -6, 1)
        self.refused("", "", -6, 0)


if __name__ == "__main__":
    unittest.main()

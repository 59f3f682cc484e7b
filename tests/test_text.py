"""A text's fault and a pattern that isn't right: all calls of one pattern answer them alike."""

import unittest

from jugglebench.bench import air, back, form, judge, lift, orbits, place, prime, runs, same, swap, turn
from telling import heights, small_words, text, wrong_beat

LAST = 4294967295

CALLS = [judge, form, lambda t: air(0, t), orbits, lambda t: swap(0, 1, t), lambda t: turn(1, t), back,
         lambda t: lift(1, t), lambda t: place(15, t), lambda t: runs(0, 2, t), prime,
         lambda t: same(t, [51]), lambda t: same([51], t)]
GREATEST_CALLS = [lambda t: air(LAST, t), lambda t: swap(LAST, LAST, t), lambda t: turn(LAST, t),
                  lambda t: lift(LAST, t), lambda t: place(LAST, t), lambda t: runs(LAST, LAST, t),
                  lambda t: same(t, []), lambda t: same(t, [50, 49])]


class TextTest(unittest.TestCase):
    def refused(self, t, answer):
        for call in CALLS + GREATEST_CALLS:
            self.assertEqual(call(list(t)), answer)

    def fault(self, word, place):
        self.refused(text(word), [-6, place])


class FaultTest(TextTest):
    def test_the_empty_text(self):
        self.fault("", 0)

    def test_no_digit_and_no_bracket(self):
        for byte in range(256):
            if byte not in text("0123456789abcdef["):
                self.refused([byte], [-6, 0])
                self.refused([51, byte], [-6, 1])
                self.refused([51, 51, byte, 51], [-6, 2])

    def test_neighbours_of_the_digits(self):
        for sign in "/:`gAFGZ \n-\\^":
            self.fault("33" + sign, 2)
            self.fault("[3" + sign, 2)
            self.fault("[33" + sign, 3)

    def test_no_digit_within_a_bracket(self):
        for byte in range(256):
            if byte not in text("123456789abcdef"):
                self.refused([91, byte], [-6, 1])
                self.refused([91, 51, byte], [-6, 2])
            if byte not in text("123456789abcdef]"):
                self.refused([91, 51, 51, byte], [-6, 3])
            if byte != 93:
                self.refused([91, 51, 51, 51, byte], [-6, 4])

    def test_a_closing_bracket_where_none_is_open(self):
        self.fault("]", 0)
        self.fault("3]", 1)
        self.fault("[33]]", 4)
        self.fault("33]", 2)

    def test_a_closing_bracket_behind_fewer_than_two_digits(self):
        self.fault("[]", 1)
        self.fault("[3]", 2)
        self.fault("3[]", 2)
        self.fault("33[3]", 4)
        self.fault("[33][3]", 6)

    def test_an_opening_bracket_within_a_bracket(self):
        self.fault("[[", 1)
        self.fault("[3[33]]", 2)
        self.fault("[33[", 3)

    def test_a_fourth_digit(self):
        self.fault("[3333]", 4)
        self.fault("[3333", 4)
        self.fault("3[4321]", 5)
        self.fault("[3330]", 4)

    def test_a_zero_within_a_bracket(self):
        self.fault("[03]", 1)
        self.fault("[30]", 2)
        self.fault("[330]", 3)
        self.fault("3[30]", 3)

    def test_a_seventeenth_beat(self):
        self.fault("3" * 17, 16)
        self.fault("3" * 64, 16)
        self.fault("0" * 17, 16)
        self.fault("3" * 16 + "[", 16)
        self.fault("3" * 16 + "[33]", 16)
        self.fault("3" * 16 + "]", 16)
        self.fault("3" * 16 + "x", 16)
        self.fault("[33]" * 15 + "333", 61)
        self.fault("3" * 13 + "[333]" * 3 + "3", 28)

    def test_the_end_of_the_text_within_a_bracket(self):
        self.fault("[", 1)
        self.fault("[3", 2)
        self.fault("[33", 3)
        self.fault("[333", 4)
        self.fault("33[", 3)
        self.fault("[33][3", 6)
        self.fault("3" * 15 + "[33", 18)
        self.fault("[33]" * 15 + "[333", 64)

    def test_the_first_of_several_faults(self):
        self.fault("3x[3]y", 1)
        self.fault("[0]x", 1)
        self.fault("[3]" + "3" * 20, 2)

    def test_a_fault_comes_before_what_is_not_right(self):
        self.fault("54x", 2)
        self.fault("21[", 3)


class RightTest(TextTest):
    def wrong(self, word, beat):
        self.refused(text(word), [-5, beat])

    def test_single_throws(self):
        self.wrong("21", 0)
        self.wrong("12", 0)
        self.wrong("10", 0)
        self.wrong("543", 0)
        self.wrong("331", 0)
        self.wrong("3333333333333330", 2)
        self.wrong("3333333333333334", 2)

    def test_each_beat_but_the_last_may_be_the_first_wrong_one(self):
        # What one beat has too few another has too many, so the last one is never the first.
        self.wrong("1111111111111112", 0)
        for beat in range(1, 15):
            self.wrong("1" * (beat - 1) + "2" + "1" * (16 - beat), beat)

    def test_several_throws(self):
        self.wrong("[42]1", 0)
        self.wrong("1[21]0", 1)
        self.wrong("[21]1[33]2", 0)
        self.wrong("[ff]0", 0)
        self.wrong("[33][33]3[22]", 1)
        self.wrong("333[54]", 0)

    def test_too_few_and_too_many_land(self):
        self.wrong("111[11]", 0)
        self.wrong("[11]111", 0)
        self.wrong("1[11]11", 1)
        self.wrong("11[111]1", 2)

    def test_as_time_gone_through_beat_by_beat_tells(self):
        for word in small_words():
            beat = wrong_beat(heights(word))
            for call in CALLS:
                if beat is None:
                    self.assertNotIn(call(text(word))[0], (-5, -6))
                else:
                    self.assertEqual(call(text(word)), [-5, beat])


if __name__ == "__main__":
    unittest.main()

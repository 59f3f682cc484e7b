import unittest

from jugglebench.bench import air
from telling import air_before, heights, small_patterns, state, text

LAST = 4294967295


class AirTest(unittest.TestCase):
    def aired(self, k, word, *numbers):
        self.assertEqual(air(k, text(word)), state(*numbers))

    def test_before_beat_0(self):
        self.aired(0, "3", 1, 1, 1)
        self.aired(0, "1", 1)
        self.aired(0, "531", 1, 1, 1)
        self.aired(0, "51", 1, 1, 0, 1)
        self.aired(0, "40", 1, 0, 1)
        self.aired(0, "04", 0, 1, 0, 1)

    def test_no_throw_at_all(self):
        self.aired(0, "0")
        self.aired(7, "000")
        self.aired(LAST, "0" * 16)

    def test_within_the_first_period(self):
        self.aired(0, "501", 1, 0, 1)
        self.aired(1, "501", 0, 1, 0, 0, 1)
        self.aired(2, "501", 1, 0, 0, 1)
        self.aired(1, "531", 1, 1, 0, 0, 1)

    def test_beyond_the_first_period(self):
        self.aired(3, "501", 1, 0, 1)
        self.aired(4, "501", 0, 1, 0, 0, 1)
        self.aired(302, "501", 1, 0, 0, 1)

    def test_the_last_beats_that_are_asked(self):
        # 4294967295 modulo 3 is 0, modulo 2 is 1, modulo 16 is 15, modulo 7 is 3.
        self.aired(LAST, "501", 1, 0, 1)
        self.aired(LAST - 1, "501", 1, 0, 0, 1)
        self.aired(LAST - 2, "501", 0, 1, 0, 0, 1)
        self.aired(LAST, "40", 0, 1, 0, 1)
        self.aired(LAST - 1, "40", 1, 0, 1)

    def test_several_throws(self):
        self.aired(0, "[21]", 2, 1)
        self.aired(0, "[12]", 2, 1)
        self.aired(0, "[321]", 3, 2, 1)
        self.aired(0, "[43]23", 2, 1, 1)
        self.aired(1, "[43]23", 1, 1, 1, 1)
        self.aired(2, "[43]23", 1, 2, 1)
        self.aired(0, "[22]0[11]", 2)
        self.aired(1, "[22]0[11]", 0, 2)
        self.aired(2, "[22]0[11]", 2)

    def test_fifteen_numbers_full(self):
        self.aired(0, "f", *[1] * 15)
        self.aired(LAST, "f", *[1] * 15)
        self.aired(0, "[fff]", *[3] * 15)
        self.aired(0, "[fe]", *[2] * 14 + [1])

    def test_longest_period(self):
        word = "f" + "0" * 14 + "1"
        self.aired(0, word, 1)
        for k in range(1, 16):
            self.aired(k, word, *[0] * (15 - k) + [1])
        self.aired(LAST, word, 1)
        self.aired(LAST - 14, word, *[0] * 14 + [1])

    def test_more_throws_behind_than_a_short_period_has(self):
        self.aired(0, "00f", 0, 0, 1, 0, 0, 1, 0, 0, 1, 0, 0, 1, 0, 0, 1)
        self.aired(1, "00f", 0, 1, 0, 0, 1, 0, 0, 1, 0, 0, 1, 0, 0, 1)
        self.aired(2, "00f", 1, 0, 0, 1, 0, 0, 1, 0, 0, 1, 0, 0, 1)

    def test_as_time_gone_through_beat_by_beat_tells(self):
        for word in small_patterns():
            for k in (0, 1, 2, 3, 4, 17, LAST - 1, LAST):
                self.assertEqual(air(k, text(word)), air_before(heights(word), k))


if __name__ == "__main__":
    unittest.main()

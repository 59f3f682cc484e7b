import unittest

from jugglebench.bench import form
from telling import heights, small_patterns, text, told, word_of


class FormTest(unittest.TestCase):
    def formed(self, word, answer):
        self.assertEqual(form(text(word)), told(answer))

    def test_single_throws(self):
        self.formed("3", "3")
        self.formed("531", "531")
        self.formed("315", "531")
        self.formed("153", "531")
        self.formed("414", "441")
        self.formed("144", "441")

    def test_beats_with_none(self):
        self.formed("0", "0")
        self.formed("04", "40")
        self.formed("501", "501")
        self.formed("015", "501")
        self.formed("150", "501")
        self.formed("00[33]", "[33]00")

    def test_a_beat_with_none_is_less_than_any(self):
        self.formed("120", "201")
        self.formed("030", "300")
        self.formed("1120", "2011")
        self.formed("303", "330")

    def test_throws_stand_from_the_highest_on(self):
        self.formed("[12]", "[21]")
        self.formed("[123]", "[321]")
        self.formed("[213]", "[321]")
        self.formed("[34]23", "[43]23")
        self.formed("[9af]", "[fa9]")
        self.formed("[131]", "[311]")

    def test_roots(self):
        self.formed("33", "3")
        self.formed("414414", "441")
        self.formed("15151515", "51")
        self.formed("0000", "0")
        self.formed("[43][34]", "[43]")
        self.formed("[123][231][312][321]", "[321]")
        self.formed("[12]1[21]1", "[21]1")

    def test_what_only_seems_a_root(self):
        self.formed("44144133", "44144133")
        self.formed("44133441", "44144133")
        self.formed("3342333", "4233333")

    def test_the_highest_throw_alone_does_not_tell(self):
        self.formed("42334233423", "42342334233")
        self.formed("4233423", "4234233")

    def test_several_throws_by_their_highest_first(self):
        self.formed("[21]5", "5[21]")
        self.formed("5[21]", "5[21]")
        self.formed("3[33]f", "f3[33]")
        self.formed("24[54]", "[54]24")

    def test_a_beat_that_ends_first_is_less(self):
        self.formed("3[33]0", "[33]03")
        self.formed("3[33]3", "[33]33")
        self.formed("33[33]", "[33]33")
        self.formed("21[21]", "[21]21")
        self.formed("[21][321][21]", "[321][21][21]")
        self.formed("3[33][333]", "[333]3[33]")
        self.formed("[33][333]3", "[333]3[33]")

    def test_later_throws_of_a_beat_tell_too(self):
        self.formed("[31][33]", "[33][31]")
        self.formed("[13][35]", "[53][31]")
        self.formed("[71][75]", "[75][71]")
        self.formed("[51][53]", "[53][51]")

    def test_letters(self):
        self.formed("9f", "f9")
        self.formed("1db9753", "db97531")
        self.formed("abcde", "eabcd")
        self.formed("f", "f")

    def test_the_longest_period(self):
        self.formed("3" * 16, "3")
        self.formed("3" * 13 + "423", "423" + "3" * 13)
        self.formed("15" * 8, "51")
        self.formed("[33]" * 16, "[33]")

    def test_the_greatest_turn_of_the_shortest_part(self):
        for word in small_patterns():
            beats = [sorted(beat, reverse=True) for beat in heights(word)]
            turns = [beats[k:] + beats[:k] for k in range(len(beats))]
            greatest = max(turns)
            part = min(n for n in range(1, len(beats) + 1) if turns[n % len(beats)] == beats)
            self.formed(word, word_of(greatest[:part]))


if __name__ == "__main__":
    unittest.main()

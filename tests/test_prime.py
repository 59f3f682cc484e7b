import unittest

from jugglebench.bench import judge, prime, turn
from telling import air_before, heights, single_patterns, small_patterns, stacked_patterns, text

LONG_PRIME = "7730070730075020"
LONG_PRIME_OF_SEVERAL = "[55]3005[53]0055150330"


def told_over(beats):
    """How many beats the shortest part has that, told over and over, is the pattern."""
    return min(part for part in range(1, len(beats) + 1)
               if len(beats) % part == 0 and all(beats[k] == beats[k % part] for k in range(len(beats))))


def answer_of(word):
    beats = [sorted(beat) for beat in heights(word)]
    part = told_over(beats)
    of_root = [air_before(beats[:part], moment) for moment in range(part)]
    all_different = all(of_root[i] != of_root[j] for j in range(part) for i in range(j))
    of_pattern = []
    for moment in range(len(beats)):
        air = air_before(beats, moment)
        if air not in of_pattern:
            of_pattern.append(air)
    return [1 if all_different else 0, len(of_pattern)]


class PrimeTest(unittest.TestCase):
    def told(self, word, *answer):
        self.assertEqual(prime(text(word)), list(answer))

    def test_all_states_different(self):
        self.told("531", 1, 3)
        self.told("441", 1, 3)
        self.told("51", 1, 2)
        self.told("42", 1, 2)
        self.told("40", 1, 2)
        self.told("501", 1, 3)
        self.told("00f", 1, 3)
        self.told("045003", 1, 6)

    def test_two_states_the_same(self):
        self.told("423", 0, 2)
        self.told("342", 0, 2)
        self.told("234", 0, 2)
        self.told("4233", 0, 2)
        self.told("531441", 0, 4)
        self.told("5313", 0, 3)
        self.told("201", 0, 2)

    def test_a_root_told_several_times_over(self):
        self.told("33", 1, 1)
        self.told("5151", 1, 2)
        self.told("531531", 1, 3)
        self.told("441" * 5, 1, 3)
        self.told("423423", 0, 2)
        self.told("4233" * 4, 0, 2)
        self.told("24[54]24[45]", 1, 3)
        self.told("[22]0[11]" * 4, 0, 2)

    def test_a_root_told_once_more_than_it_is_whole(self):
        self.told("4242", 1, 2)
        self.told("42423", 0, 2)
        self.told("531531441", 0, 4)

    def test_a_pattern_without_balls(self):
        for period in range(1, 17):
            self.told("0" * period, 1, 1)

    def test_a_period_of_1(self):
        for sign in "0123456789abcdef":
            self.told(sign, 1, 1)
        for word in ("[11]", "[21]", "[12]", "[321]", "[fff]"):
            self.told(word, 1, 1)

    def test_a_period_of_16(self):
        self.told("3" * 16, 1, 1)
        self.told("3" * 13 + "423", 0, 2)
        self.told("f" + "0" * 14 + "1", 0, 15)
        self.told("13579bdf" * 2, 1, 8)
        self.told("f7" * 8, 1, 2)
        self.told("[33]" * 16, 1, 1)
        self.told(LONG_PRIME, 1, 16)
        self.told(LONG_PRIME_OF_SEVERAL, 1, 16)

    def test_two_throws_on_a_beat(self):
        self.told("24[54]", 1, 3)
        self.told("[43]23", 1, 3)
        self.told("[22]0", 1, 2)
        self.told("[22]0[11]", 0, 2)
        self.told("[21][12]", 1, 1)

    def test_three_throws_on_a_beat(self):
        self.told("1[321]2", 1, 3)
        self.told("[222]0", 1, 2)
        self.told("[222]0[111]", 0, 2)
        self.told("[321][123]", 1, 1)

    def test_states_that_differ_in_how_many_land_on_a_beat_alone(self):
        self.told("[42]0[421]3", *answer_of("[42]0[421]3"))
        self.told("5[21]", 1, 2)

    def test_a_text_without_a_pattern(self):
        self.told("", -6, 0)
        self.told("3x", -6, 1)
        self.told("21x", -6, 2)
        self.told("[30]", -6, 2)
        self.told("[3", -6, 2)
        self.told("f" * 17, -6, 16)
        self.told("21", -5, 0)
        self.told("1[21]0", -5, 1)
        self.told("3333333333333330", -5, 2)

    def test_as_time_gone_through_beat_by_beat_tells(self):
        answers = []
        for word in small_patterns() + single_patterns()[::2] + stacked_patterns()[::2]:
            answers.append(answer_of(word))
            self.told(word, *answers[-1])
        self.assertGreater(len([answer for answer in answers if answer[0] == 0]), 30)
        self.assertGreater(len([answer for answer in answers if answer[0] == 1]), 30)

    def test_it_is_the_same_of_all_turns(self):
        for word in small_patterns() + single_patterns()[::5] + stacked_patterns()[::5] + [LONG_PRIME]:
            answer = prime(text(word))
            for k in range(1, judge(text(word))[1]):
                self.assertEqual(prime(turn(k, text(word))[1:]), answer)


if __name__ == "__main__":
    unittest.main()

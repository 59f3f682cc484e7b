import unittest

from jugglebench.bench import judge, orbits
from telling import HIGHEST, heights, single_patterns, text


def joined_beats(beats):
    """Of each beat the first one of its orbit: beats that a throw joins are given the same label till none changes."""
    labels = list(range(len(beats)))
    changed = True
    while changed:
        changed = False
        for beat, thrown in enumerate(beats):
            other = (beat + sum(thrown)) % len(beats)
            least = min(labels[beat], labels[other])
            changed = changed or labels[beat] != labels[other]
            labels[beat] = labels[other] = least
    return labels


def orbits_in_the_air(beats):
    """The balls of an orbit are those that its beats threw before beat 0 and that land on it or later."""
    labels = joined_beats(beats)
    balls = {label: 0 for label in sorted(labels)}
    for moment in range(-HIGHEST, 0):
        beat = moment % len(beats)
        balls[labels[beat]] += sum(1 for height in beats[beat] if moment + height >= 0)
    answer = [len(balls)]
    for first, number in balls.items():
        answer += [first, number]
    return answer


class OrbitsTest(unittest.TestCase):
    def gone_round(self, word, *answer):
        self.assertEqual(orbits(text(word)), list(answer))

    def refused(self, word, *answer):
        self.assertEqual(orbits(text(word)), list(answer))

    def test_one_orbit(self):
        self.gone_round("441", 1, 0, 3)
        self.gone_round("744", 1, 0, 5)
        self.gone_round("33", 1, 0, 3)
        self.gone_round("71", 1, 0, 4)
        self.gone_round("552", 1, 0, 4)
        self.gone_round("13", 1, 0, 2)

    def test_several_orbits(self):
        self.gone_round("531", 2, 0, 2, 1, 1)
        self.gone_round("423", 2, 0, 2, 2, 1)
        self.gone_round("342", 2, 0, 1, 1, 2)
        self.gone_round("234", 2, 0, 2, 1, 1)
        self.gone_round("333", 3, 0, 1, 1, 1, 2, 1)
        self.gone_round("db97531", 4, 0, 2, 1, 2, 2, 2, 3, 1)
        self.gone_round("22", 2, 0, 1, 1, 1)
        self.gone_round("64", 2, 0, 3, 1, 2)
        self.gone_round("46", 2, 0, 2, 1, 3)

    def test_a_beat_without_a_throw_is_an_orbit_by_itself(self):
        self.gone_round("40", 2, 0, 2, 1, 0)
        self.gone_round("04", 2, 0, 0, 1, 2)
        self.gone_round("501", 2, 0, 2, 1, 0)
        self.gone_round("00f", 3, 0, 0, 1, 0, 2, 5)
        self.gone_round("000", 3, 0, 0, 1, 0, 2, 0)
        self.gone_round("50505", 5, 0, 1, 1, 0, 2, 1, 3, 0, 4, 1)
        self.gone_round("0f0", 3, 0, 0, 1, 5, 2, 0)

    def test_a_period_of_1(self):
        self.gone_round("0", 1, 0, 0)
        self.gone_round("1", 1, 0, 1)
        self.gone_round("9", 1, 0, 9)
        self.gone_round("f", 1, 0, 15)

    def test_a_period_of_16(self):
        self.gone_round("3" * 16, 1, 0, 3)
        self.gone_round("5" * 16, 1, 0, 5)
        self.gone_round("4" * 16, 4, 0, 1, 1, 1, 2, 1, 3, 1)
        self.gone_round("8" * 16, 8, *sum([[beat, 1] for beat in range(8)], []))
        self.gone_round("0" * 16, 16, *sum([[beat, 0] for beat in range(16)], []))
        self.gone_round("f" + "0" * 14 + "1", 15, 0, 1, *sum([[beat, 0] for beat in range(1, 15)], []))
        self.gone_round("3" * 13 + "423", 2, 0, 2, 1, 1)

    def test_more_than_one_throw_on_a_beat(self):
        self.refused("[21]", -1)
        self.refused("[321]", -1)
        self.refused("[43]23", -1)
        self.refused("24[54]", -1)
        self.refused("[22]0[11]", -1)
        self.refused("[21]1", -1)
        self.refused("1[21]", -1)
        self.refused("1[21]" * 8, -1)
        self.refused("[33]" * 16, -1)

    def test_a_text_without_a_pattern_comes_first(self):
        self.refused("", -6, 0)
        self.refused("[21]x", -6, 4)
        self.refused("21x", -6, 2)
        self.refused("[3]", -6, 2)
        self.refused("3" * 17, -6, 16)
        self.refused("21", -5, 0)
        self.refused("1[21]0", -5, 1)
        self.refused("[42]1", -5, 0)

    def test_all_balls_go_round_in_one_orbit_each(self):
        for word in single_patterns():
            answer = orbits(text(word))
            self.assertEqual(len(answer), 1 + 2 * answer[0])
            self.assertEqual(sum(answer[2::2]), judge(text(word))[0])
            self.assertEqual(answer[1::2], sorted(set(answer[1::2])))

    def test_as_the_balls_in_the_air_tell(self):
        for word in single_patterns():
            self.gone_round(word, *orbits_in_the_air(heights(word)))


if __name__ == "__main__":
    unittest.main()

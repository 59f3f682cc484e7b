"""What is promised over the whole program, of all patterns and states together: P1 to P6, in their order."""

import unittest
from itertools import product

from jugglebench.bench import (
    after, air, back, count, form, join, judge, lift, nth, orbits, place, prime, runs, same, swap, turn, way
)
from telling import DIGITS, HIGHEST, Leads, heights, right_words, single_patterns, small_patterns, small_words
from telling import stacked_patterns, states_of, text, word_of, wrong_beat

WAYS = [(high, most, balls) for high in range(1, 9) for most in (1, 2) for balls in range(6)]


def several_patterns():
    return small_patterns() + stacked_patterns()


def all_patterns():
    return single_patterns() + several_patterns()


def word(answer):
    """What an answered text says; its length stands in front of it."""
    if answer[0] != len(answer) - 1:
        raise ValueError("not as many bytes as told")
    return "".join(chr(byte) for byte in answer[1:])


def two_words(answer):
    first = 1 + answer[0]
    return word(answer[:first]), word(answer[first:])


def highest_first(beats):
    return [sorted(beat, reverse=True) for beat in beats]


def turned(beats, k):
    return [beats[(beat + k) % len(beats)] for beat in range(len(beats))]


def balls_of(word_told):
    return judge(text(word_told))[0]


class TextTest(unittest.TestCase):
    """P1: a pattern's text is read as it; a right one has a whole number of balls."""

    def read_as(self, answered, beats):
        self.assertEqual(heights(answered), beats)
        self.assertEqual(answered, word_of(beats))
        self.assertEqual(word(turn(0, text(answered))), answered)

    def test_a_text_told_and_read_again(self):
        for told_word in all_patterns():
            beats = highest_first(heights(told_word))
            self.read_as(word(turn(0, text(told_word))), beats)
            self.read_as(word(turn(1, text(told_word))), turned(beats, 1))

    def test_a_form_is_a_turn_of_the_root_and_its_own_form(self):
        for told_word in all_patterns():
            formed = word(form(text(told_word)))
            beats = highest_first(heights(told_word))
            root = beats[:judge(text(told_word))[4]]
            self.read_as(formed, max(turned(root, k) for k in range(len(root))))
            self.assertEqual(word(form(text(formed))), formed)
            self.assertEqual(judge(text(formed))[1], judge(text(told_word))[4])

    def test_each_text_answered_is_one_that_is_answered_for_itself(self):
        for told_word in several_patterns():
            for answer in (back(text(told_word)), lift(0, text(told_word))):
                self.read_as(word(answer), heights(word(answer)))
        for told_word in single_patterns():
            for answer in (swap(0, 1, text(told_word)), lift(1, text(told_word)), back(text(told_word))):
                if answer[0] >= 0:
                    self.read_as(word(answer), heights(word(answer)))

    def test_a_right_one_has_a_whole_number_of_balls(self):
        for told_word in all_patterns():
            beats = heights(told_word)
            judged = judge(text(told_word))
            self.assertEqual(judged[0] * judged[1], sum(sum(beat) for beat in beats))
            self.assertEqual(judged[1], len(beats))
            for k in range(len(beats)):
                self.assertEqual(sum(air(k, text(told_word))), judged[0])

    def test_one_that_is_not_right_is_refused_by_all_that_ask_for_a_pattern(self):
        three = text("3")
        for told_word in small_words():
            wrong = wrong_beat(heights(told_word))
            if wrong is None:
                continue
            t = text(told_word)
            answers = [judge(t), form(t), air(0, t), join(5, 2, t, three), join(5, 2, three, t), orbits(t),
                       swap(0, 1, t), turn(1, t), back(t), lift(1, t), place(5, t), runs(0, 1, t), prime(t),
                       same(t, three), same(three, t)]
            self.assertEqual(answers, [[-5, wrong]] * len(answers))


class RightAgainTest(unittest.TestCase):
    """P2: turned, seen backwards, swapped, lifted it's right again, of as many balls; lifted by d: d more."""

    def right(self, answer, balls, period):
        answered = word(answer)
        self.assertIsNone(wrong_beat(heights(answered)))
        self.assertEqual(judge(text(answered))[:2], [balls, period])

    def test_turned(self):
        for told_word in all_patterns():
            balls, period = judge(text(told_word))[:2]
            for k in (0, 1, period - 1, period, period + 1, 4294967295):
                self.right(turn(k, text(told_word)), balls, period)

    def test_turned_all_the_way_it_is_the_pattern(self):
        for told_word in all_patterns():
            period = judge(text(told_word))[1]
            once = turn(0, text(told_word))
            for k in range(period + 1):
                self.assertEqual(turn(period - k, turn(k, text(told_word))[1:]), once)

    def test_seen_backwards(self):
        for told_word in all_patterns():
            balls, period = judge(text(told_word))[:2]
            answer = back(text(told_word))
            self.right(answer, balls, period)
            self.assertEqual(back(answer[1:]), turn(0, text(told_word)))
            self.assertEqual(judge(answer[1:]), judge(text(told_word)))

    def test_swapped(self):
        for told_word in single_patterns():
            balls, period = judge(text(told_word))[:2]
            for j in range(period):
                for i in range(j):
                    answer = swap(i, j, text(told_word))
                    if answer != [-3]:
                        self.right(answer, balls, period)

    def test_lifted(self):
        for told_word in single_patterns():
            balls, period, highest = judge(text(told_word))[:3]
            for d in range(16):
                answer = lift(d, text(told_word))
                if highest + d <= HIGHEST:
                    self.right(answer, balls + d, period)
                else:
                    self.assertEqual(answer, [-3])

    def test_lifted_with_several_throws_on_a_beat(self):
        lifted = 0
        for told_word in stacked_patterns():
            period = judge(text(told_word))[1]
            throws = sum(len(beat) for beat in heights(told_word))
            for d in range(16):
                answer = lift(d, text(told_word))
                if answer != [-3] and judge(text(told_word))[3] > 1:
                    self.right(answer, balls_of(told_word) + d * throws // period, period)
                    lifted += 1
        self.assertGreater(lifted, 1000)


class BackToItTest(unittest.TestCase):
    """P3: from the state before its beat 0 a pattern leads back to it, and from no other beat's to another."""

    def test_from_the_state_before_its_beat_0(self):
        for told_word in all_patterns():
            before = air(0, text(told_word))
            self.assertEqual(after(before, text(told_word)), before)

    def test_from_no_other_beats_to_another(self):
        for told_word in all_patterns():
            for k in range(1, judge(text(told_word))[1]):
                before = air(k, text(told_word))
                self.assertEqual(after(before, turn(k, text(told_word))[1:]), before)

    def test_beat_by_beat(self):
        for told_word in all_patterns():
            beats = heights(told_word)
            for k, beat in enumerate(beats):
                following = after(air(k, text(told_word)), text(word_of([beat])))
                self.assertEqual(following, air(k + 1, text(told_word)))

    def test_a_period_later_the_state_is_the_same(self):
        for told_word in all_patterns():
            period = judge(text(told_word))[1]
            for k in range(period):
                self.assertEqual(air(k, text(told_word)), air(k + period * 99, text(told_word)))

    def test_the_different_states_are_as_many_as_prime_tells(self):
        for told_word in all_patterns():
            judged = judge(text(told_word))
            states = {tuple(air(k, text(told_word))) for k in range(judged[1])}
            self.assertEqual(prime(text(told_word)), [1 if len(states) == judged[4] else 0, len(states)])


class WaysTest(unittest.TestCase):
    """P4: ways lead where told; none is shorter."""

    def leads(self, s, answered, u, high, most):
        """Whether the row leads there with no throw above high, never more than most landing between."""
        numbers = list(s)
        for beat in heights(answered):
            self.assertLessEqual(max(beat, default=0), high)
            numbers = after(numbers, text(word_of([beat])))
            self.assertLessEqual(max(numbers), most)
        self.assertEqual(numbers, list(u))

    def test_ways(self):
        for high, most, balls in WAYS:
            states = states_of(high, most, balls)
            leads = Leads(high, most, balls) if len(states) < 150 else None
            for number, u in enumerate(states):
                if number % (1 + len(states) // 4) > 0:
                    continue
                far = leads.distances(u) if leads else None
                for s in states[::1 + len(states) // 7]:
                    answered = word(way(high, most, list(s), list(u)))
                    self.leads(s, answered, u, high, most)
                    if leads:
                        self.assertEqual(len(heights(answered)), far[s])

    def test_joins(self):
        words = [told_word for told_word in all_patterns()[::4] if balls_of(told_word) == 3][:12]
        words += ["3", "51", "[21]", "441", "24[54]", "97531", "[22]0[11]", "2", "40"]
        joined = 0
        for one, two in product(words, words):
            answer = join(8, 2, text(one), text(two))
            if answer == [-1]:
                continue
            forth, backwards = two_words(answer)
            here, there = air(0, text(one)), air(0, text(two))
            self.leads(here, forth, there, 8, 2)
            self.leads(there, backwards, here, 8, 2)
            self.assertEqual(way(8, 2, here, there), [len(forth)] + text(forth))
            joined += 1
        self.assertGreater(joined, 30)

    def test_none_is_shorter_of_joins(self):
        leads = Leads(5, 2, 3)
        words = ["3", "51", "15", "441", "144", "[21]", "5304", "3405", "[31][11]", "405", "531"]
        for one, two in product(words, words):
            answer = join(5, 2, text(one), text(two))
            if judge(text(one))[0] != 3 or judge(text(two))[0] != 3:
                self.assertLess(answer[0], 0)
                continue
            forth, backwards = two_words(answer)
            here, there = tuple(air(0, text(one))), tuple(air(0, text(two)))
            self.assertEqual(len(heights(forth)), leads.distances(there)[here])
            self.assertEqual(len(heights(backwards)), leads.distances(here)[there])

    def test_there_is_none_shorter_than_from_a_pattern_to_its_turn(self):
        for told_word in all_patterns()[::3]:
            period = judge(text(told_word))[1]
            for k in range(period):
                answer = join(8, 2, text(told_word), turn(k, text(told_word))[1:])
                if answer != [-1]:
                    forth, backwards = two_words(answer)
                    self.assertLessEqual(len(heights(forth)), k)
                    self.assertLessEqual(len(heights(backwards)), (period - k) % period)


class HowManyTest(unittest.TestCase):
    """P5: of single throws, n beats, b balls, however high, there are (b + 1)^n less b^n patterns."""

    def test_where_high_is_no_bound(self):
        for n, b in product(range(1, 6), range(9)):
            number = (b + 1) ** n - b ** n
            for high in range(n * b, 16):
                self.assertEqual(count(n, b, high), [number])
                self.assertEqual(len(nth(n, b, high, number - 1)), n + 1)
                self.assertEqual(nth(n, b, high, number), [-4])

    def test_where_it_is_one_there_are_fewer(self):
        for n, b in product(range(2, 6), range(1, 9)):
            for high in range(min(n * b, 16)):
                self.assertLess(count(n, b, high)[0], (b + 1) ** n - b ** n)

    def test_each_of_these_by_its_number(self):
        for n, b in [(1, 8), (2, 7), (3, 5), (4, 2), (4, 3), (5, 1), (5, 2)]:
            words = right_words(n, b, n * b)
            self.assertEqual(len(words), (b + 1) ** n - b ** n)
            for number, told_word in enumerate(words):
                self.assertEqual(word(nth(n, b, 15, number)), told_word)
                self.assertEqual(place(15, text(told_word)), [number])

    def test_lifted_backwards_and_turned_they_are_among_these(self):
        for told_word in right_words(4, 3, 8):
            self.assertIn(place(8, turn(1, text(told_word))[1:])[0], range(count(4, 3, 8)[0]))
            self.assertIn(place(8, back(text(told_word))[1:])[0], range(count(4, 3, 8)[0]))
            self.assertIn(place(9, lift(1, text(told_word))[1:])[0], range(count(4, 4, 9)[0]))


class BallsTest(unittest.TestCase):
    """P6: each ball thrown h high is thrown again h beats later, and not between."""

    def throws_of(self, told_word, since):
        answer = runs(since, 40, text(told_word))
        self.assertEqual(answer[0], 40)
        found = []
        at = 1
        for moment in range(40):
            for throw in range(answer[at]):
                found.append((moment, answer[at + 1 + 2 * throw], answer[at + 2 + 2 * throw]))
            at += 1 + 2 * answer[at]
        self.assertEqual(at, len(answer))
        return found

    def test_each_ball(self):
        for number, told_word in enumerate(all_patterns()):
            throws = self.throws_of(told_word, number * 3 % 201)
            self.assertEqual({ball for moment, ball, height in throws}, set(range(balls_of(told_word))))
            awaited = {}
            for moment, ball, height in throws:
                self.assertEqual(awaited.get(ball, moment), moment)
                awaited[ball] = moment + height
            self.assertTrue(all(moment >= 40 for moment in awaited.values()))

    def test_the_balls_in_the_air_are_those_that_the_state_tells(self):
        for told_word in all_patterns()[::3]:
            awaited = {}
            for moment, ball, height in self.throws_of(told_word, 0):
                awaited[ball] = moment + height
            landing = [0] * HIGHEST
            for moment in awaited.values():
                landing[moment - 40] += 1
            self.assertEqual(air(40, text(told_word)), landing)

    def test_a_ball_of_single_throws_stays_in_its_orbit(self):
        for told_word in single_patterns()[::3]:
            answer = orbits(text(told_word))
            balls = dict(zip(answer[1::2], answer[2::2]))
            beats_of_ball = {}
            for moment, ball, height in self.throws_of(told_word, 0):
                beats_of_ball.setdefault(ball, set()).add(moment % len(told_word))
            firsts = [max(first for first in balls if first in orbit_of(told_word, min(beats)))
                      for beats in beats_of_ball.values()]
            for first, number in balls.items():
                self.assertEqual(firsts.count(first), number)


def orbit_of(told_word, beat):
    """The beats that throw and landing lead to from a beat, itself among them."""
    found = []
    while beat not in found:
        found.append(beat)
        beat = (beat + DIGITS.index(told_word[beat])) % len(told_word)
    return found


class SameTest(unittest.TestCase):
    """What leaves the form as it is, and what the calls then tell alike."""

    def test_patterns_that_are_the_same(self):
        for told_word in all_patterns():
            formed = form(text(told_word))
            judged = judge(text(told_word))
            for k in range(judged[1]):
                other = turn(k, text(told_word))[1:]
                self.assertEqual(same(other, text(told_word)), [1])
                self.assertEqual(form(other), formed)
                self.assertEqual(judge(other), judged)

    def test_the_same_if_seen_backwards_they_are(self):
        words = all_patterns()[::23]
        for one, two in product(words, words):
            alike = same(text(one), text(two))
            self.assertEqual(same(back(text(one))[1:], back(text(two))[1:]), alike)
            self.assertEqual([1 if form(text(one)) == form(text(two)) else 0], alike)


if __name__ == "__main__":
    unittest.main()

import unittest

from jugglebench.bench import after, air
from telling import done, heights, small_patterns, state, text, whole, word_of


class AfterTest(unittest.TestCase):
    def leads(self, s, word, *numbers):
        self.assertEqual(after(s, text(word)), state(*numbers))

    def refused(self, s, word, *answer):
        self.assertEqual(after(s, text(word)), list(answer))

    def test_single_throws(self):
        self.leads([1, 1, 1], "3", 1, 1, 1)
        self.leads([1, 1, 1], "4", 1, 1, 0, 1)
        self.leads([1, 1, 0, 1], "2", 1, 1, 1)
        self.leads([1, 1, 1], "531", 1, 1, 1)
        self.leads([1, 1, 1], "53", 1, 0, 1, 1)
        self.leads([1], "1", 1)
        self.leads([1], "f", *[0] * 14 + [1])

    def test_beats_with_none(self):
        self.leads([0, 1, 1], "0", 1, 1)
        self.leads([], "0")
        self.leads([], "0" * 16)
        self.leads([0, 0, 0, 2], "000", 2)
        self.leads([0] * 14 + [3], "0" * 14, 3)
        self.leads([1], "400", 0, 1)

    def test_two_throws(self):
        self.leads([2], "[21]", 1, 1)
        self.leads([2], "[12]", 1, 1)
        self.leads([2], "[33]", 0, 0, 2)
        self.leads([2, 1], "[21]", 2, 1)
        self.leads([2, 1, 1], "[43]23", 2, 1, 1)

    def test_three_throws(self):
        self.leads([3], "[321]", 1, 1, 1)
        self.leads([3], "[132]", 1, 1, 1)
        self.leads([3, 2, 1], "[321]", 3, 2, 1)
        self.leads([3], "[fff]", *[0] * 14 + [3])
        self.leads([3, 0, 1], "[111][211]", 3, 1)

    def test_rows_that_are_no_right_patterns(self):
        self.leads([1, 1, 1], "5", 1, 1, 0, 0, 1)
        self.leads([1, 1, 1], "543", 0, 0, 3)
        self.leads([1, 1], "21", 2)
        self.leads([2], "[21]1", 2)

    def test_states_of_fewer_than_fifteen_numbers_and_of_fifteen(self):
        for length in range(3, 16):
            self.leads([1, 1, 1] + [0] * (length - 3), "51", 2, 0, 0, 1)
        self.leads([0] * 14 + [1], "0", *[0] * 13 + [1])
        self.leads([3] * 15, "[fff]", *[3] * 15)
        self.leads([1] * 15, "f" * 16, *[1] * 15)

    def test_what_is_no_state(self):
        self.refused([0] * 16, "0", -1)
        self.refused([1, 1, 1] + [0] * 13, "3", -1)
        self.refused([4], "0", -1)
        self.refused([4], "[321]", -1)
        self.refused([1, 255], "1", -1)
        self.refused([0] * 14 + [4], "0", -1)
        self.refused([0] * 15 + [4], "0", -1)

    def test_three_is_not_too_many_for_a_state(self):
        self.leads([0, 3], "0", 3)
        self.leads([0] * 14 + [3], "0", *[0] * 13 + [3])

    def test_the_fault_of_the_text(self):
        self.refused([1], "", -6, 0)
        self.refused([1], "x", -6, 0)
        self.refused([1], "1]", -6, 1)
        self.refused([1], "1[", -6, 2)
        self.refused([2], "[2]", -6, 2)
        self.refused([2], "[20]", -6, 2)
        self.refused([2], "[2111]", -6, 4)
        self.refused([1], "1" * 17, -6, 16)
        self.refused([], "", -6, 0)

    def test_another_number_lands_than_is_thrown(self):
        self.refused([], "3", -5)
        self.refused([1], "0", -5)
        self.refused([1], "[21]", -5)
        self.refused([2], "1", -5)
        self.refused([2], "[321]", -5)
        self.refused([3], "[21]", -5)
        self.refused([3], "0", -5)
        self.refused([1, 1, 1], "3330", -5)
        self.refused([1], "1111111111111110", -5)

    def test_more_than_three_would_land(self):
        self.refused([1, 3], "1", -3)
        self.refused([1, 0, 0, 3], "3", -3)
        self.refused([3, 1], "[111]", -3)
        self.refused([3, 2], "[211]", -3)
        self.refused([2, 1, 3], "[22]1", -3)
        self.refused([2, 0, 0, 2], "[33]0", -3)
        self.refused([1, 1, 1, 1], "4321", -3)

    def test_three_may_land(self):
        self.leads([1, 2], "1", 3)
        self.leads([3], "[111]", 3)
        self.leads([1, 1, 1, 1], "432", 1, 3)
        self.leads([2, 0, 0, 1], "[33]", 0, 0, 3)

    def test_no_state_is_told_first(self):
        self.refused([4], "x", -1)
        self.refused([0] * 16, "", -1)
        self.refused([4], "1", -1)
        self.refused([1] + [0] * 15, "0", -1)

    def test_a_fault_is_told_before_what_lands(self):
        self.refused([1], "0x", -6, 1)
        self.refused([1, 3], "1x", -6, 1)
        self.refused([], "3[", -6, 2)
        self.refused([2], "1" * 17, -6, 16)

    def test_another_number_is_told_before_more_than_three(self):
        self.refused([1, 3], "11", -5)
        self.refused([1, 3], "1[321]", -5)
        self.refused([1, 0, 0, 3], "31", -5)
        self.refused([1, 0, 0, 3, 0], "3001", -5)

    def test_each_beat_of_a_pattern_leads_to_the_next_state(self):
        for word in small_patterns() + ["97531", "24[54]", "db97531", "[43]23", "f" + "0" * 14 + "1"]:
            beats = heights(word)
            for k in range(len(beats)):
                before = air(k, text(word))
                self.assertEqual(after(before, text(word_of([beats[k]]))), air(k + 1, text(word)))

    def test_once_round_leads_back(self):
        for word in small_patterns() + ["97531", "24[54]", "db97531", "[43]23", "f" + "0" * 14 + "1", "3" * 16]:
            beats = heights(word)
            for k in range(2 * len(beats)):
                begun = k % len(beats)
                before = air(k, text(word))
                self.assertEqual(after(before, text(word_of(beats[begun:] + beats[:begun]))), before)

    def test_as_beats_done_one_by_one(self):
        for word in ("3", "1", "f", "[21]", "[33]", "[321]", "[fed]"):
            for numbers in ([0] * 15, [1, 1, 1], [2, 0, 2], [3, 1], [1, 2, 2, 2], [1, 3, 3], [2, 3, 2, 1], [3] * 15):
                beat = heights(word)[0]
                end = done(whole(numbers), beat)
                if numbers[0] != len(beat):
                    self.refused(numbers, word, -5)
                elif max(end) > 3:
                    self.refused(numbers, word, -3)
                else:
                    self.leads(numbers, word, *end)


if __name__ == "__main__":
    unittest.main()

import unittest
from itertools import product

from jugglebench.bench import count
from telling import DIGITS, HIGHEST, heights, is_right, wrong_beat

LAST = 4294967295


def tally(period):
    """How many right rows there are of so many balls and just so great a greatest height: all rows are gone through."""
    found = {}
    for row in product(range(HIGHEST + 1), repeat=period):
        if is_right(row):
            key = (sum(row) // period, max(row))
            found[key] = found.get(key, 0) + 1
    return found


class CountTest(unittest.TestCase):
    def counted(self, n, b, high, answer):
        self.assertEqual(count(n, b, high), [answer])

    def refused(self, n, b, high):
        self.assertEqual(count(n, b, high), [-1])

    def test_a_period_of_1(self):
        for b, high in product(range(9), range(16)):
            self.counted(1, b, high, 1 if b <= high else 0)

    def test_no_balls(self):
        for n, high in product(range(1, 6), range(16)):
            self.counted(n, 0, high, 1)

    def test_no_throw_at_all(self):
        for n, b in product(range(1, 6), range(1, 9)):
            self.counted(n, b, 0, 0)

    def test_a_few_that_can_be_told_by_hand(self):
        # One ball, two beats: 02, 11 and 20.
        self.counted(2, 1, 2, 3)
        self.counted(2, 1, 1, 1)
        self.counted(2, 1, 0, 0)
        # Two balls, two beats: 04, 13, 22, 31, 40.
        self.counted(2, 2, 4, 5)
        self.counted(2, 2, 3, 3)
        self.counted(2, 2, 2, 1)
        self.counted(2, 2, 1, 0)
        # One ball, three beats: 003, 030, 300, 012, 120, 201, 111.
        self.counted(3, 1, 3, 7)
        self.counted(3, 1, 2, 4)
        self.counted(3, 1, 1, 1)

    def test_however_high(self):
        for n, b in product(range(1, 6), range(9)):
            for high in range(n * b, 16):
                self.counted(n, b, high, (b + 1) ** n - b ** n)

    def test_the_greatest_height_of_all_is_a_bound_too(self):
        self.counted(5, 3, 15, 4 ** 5 - 3 ** 5)
        self.counted(5, 3, 14, 4 ** 5 - 3 ** 5 - 5)
        self.counted(4, 4, 15, 5 ** 4 - 4 ** 4 - 4)
        self.counted(2, 8, 15, 15)
        self.counted(2, 7, 15, 15)

    def test_all_heights_alike(self):
        for n, b in product(range(1, 6), range(9)):
            self.counted(n, b, b, 1)

    def test_as_all_rows_of_heights_gone_through_tell(self):
        for n in range(1, 6):
            found = tally(n)
            for b in range(9):
                total = 0
                for high in range(16):
                    total += found.get((b, high), 0)
                    self.counted(n, b, high, total)

    def test_rows_are_right_as_time_gone_through_beat_by_beat_tells(self):
        for n in (1, 2, 3):
            for row in product(range(HIGHEST + 1), repeat=n):
                word = "".join(DIGITS[height] for height in row)
                self.assertEqual(is_right(row), wrong_beat(heights(word)) is None)

    def test_n_out_of_bounds(self):
        for n in (0, 6, 7, 16, 256, LAST):
            self.refused(n, 0, 0)
            self.refused(n, 3, 5)
            self.refused(n, 8, 15)

    def test_b_out_of_bounds(self):
        for b in (9, 10, 16, 256, LAST):
            self.refused(1, b, 15)
            self.refused(3, b, 5)
            self.refused(5, b, 0)

    def test_high_out_of_bounds(self):
        for high in (16, 17, 256, LAST):
            self.refused(1, 0, high)
            self.refused(3, 3, high)
            self.refused(5, 8, high)

    def test_all_out_of_bounds(self):
        self.refused(0, 9, 16)
        self.refused(6, 9, 16)
        self.refused(LAST, LAST, LAST)

    def test_the_edges_themselves_are_none_of_these(self):
        self.counted(1, 0, 0, 1)
        self.counted(1, 8, 15, 1)
        self.counted(5, 0, 15, 1)
        self.counted(5, 8, 0, 0)
        self.counted(5, 8, 8, 1)
        self.counted(5, 8, 15, 7381)


if __name__ == "__main__":
    unittest.main()

"""Rows drawn by fixed seeds, parted, merged and thinned in several orders: points 9 to 13 together."""

import copy
import random
import unittest

from helpers import KINDS, LONGEST
from rankpouch.asks import below, between, so_manieth, upto
from rankpouch.errors import NoPlace
from rankpouch.forms import look_pouch
from rankpouch.gaps import empty, merged, of_run, thinned
from rankpouch.judge import judge
from rankpouch.rows import count_below, count_upto, look_row


class Drawn(unittest.TestCase):
    def assert_counts(self, row, pouch, numbers):
        for number in numbers:
            for told, count in ((upto(pouch, number), count_upto(row, number)),
                                (below(pouch, number), count_below(row, number))):
                low, high = told
                self.assertLessEqual(low, count)
                self.assertLessEqual(count, high)
                self.assertLessEqual(high - low, pouch[1])
                self.assertTrue(0 <= low and high <= pouch[0])

    def assert_between(self, row, pouch, numbers):
        for one, other in zip(numbers, numbers[1:] + numbers[:1]):
            low, high = between(pouch, one, other)
            count = max(0, count_upto(row, other) - count_below(row, one))
            self.assertTrue(low <= count <= high, (one, other))
            self.assertLessEqual(high - low, 2 * pouch[1])

    def assert_places(self, row, pouch, places):
        half = (pouch[1] + 1) // 2
        for place in places:
            number = so_manieth(pouch, place)
            first = count_below(row, number) + 1
            last = count_upto(row, number)
            self.assertLessEqual(first, last)
            self.assertLessEqual(first - half, place)
            self.assertLessEqual(place, last + half)

    def assert_true_of(self, row, pouch, draw):
        length = look_row(row)
        self.assertEqual(pouch[0], length)
        self.assertIs(look_pouch(pouch), True)
        self.assertIs(judge(row, pouch), True)
        stand = sorted({number for number, times in row})
        asked = sorted({number + more for number in stand for more in (-1, 0, 1)})
        self.assert_counts(row, pouch, asked)
        self.assert_between(row, pouch, draw.sample(asked, len(asked)))
        self.assert_places(row, pouch, [1, (length + 1) // 2, length] + [draw.randint(1, length) for _ in range(20)])
        for place in (0, -1, length + 1):
            with self.assertRaises(NoPlace):
                so_manieth(pouch, place)

    def thin(self, pouch, keep):
        before = copy.deepcopy(pouch)
        told = thinned(pouch, keep)
        self.assertEqual(pouch, before)
        self.assertLessEqual(len(told[3]), 2 * keep)
        self.assertEqual(told[:3], (pouch[0], pouch[1] + pouch[0] // keep, pouch[2] + 1))
        return told

    def merge(self, one, other):
        before = copy.deepcopy((one, other))
        told = merged(one, other)
        self.assertEqual((one, other), before)
        self.assertEqual(len(told[3]), len(one[3]) + len(other[3]))
        self.assertEqual(told[:3], (one[0] + other[0], one[1] + other[1], max(one[2], other[2])))
        return told

    def joined_anyhow(self, row, draw, keep):
        """Any two parts are merged, over and over; some are thinned, once or twice."""
        parts = [([run], of_run(*run)) for run in row]
        while len(parts) > 1:
            one = parts.pop(draw.randrange(len(parts)))
            other = parts.pop(draw.randrange(len(parts)))
            both = (one[0] + other[0], self.merge(one[1], other[1]))
            for _ in range(draw.choice((0, 0, 0, 1, 2))):
                both = (both[0], self.thin(both[1], keep))
            self.assertIs(judge(*both), True)
            parts.append(both)
        return parts[0][1]

    def joined_in_order(self, row, keep):
        """One run behind another, thinned wherever there are too many entries."""
        pouch = empty()
        for run in row:
            pouch = self.merge(pouch, of_run(*run))
            if len(pouch[3]) > 4 * keep:
                pouch = self.thin(pouch, keep)
        return pouch

    def joined_by_halves(self, row, keep):
        if len(row) == 1:
            return of_run(*row[0])
        half = len(row) // 2
        both = self.merge(self.joined_by_halves(row[half:], keep), self.joined_by_halves(row[:half], keep))
        return self.thin(both, keep)

    def test_rows_of_every_kind(self):
        for seed in range(20):
            for kind in KINDS:
                with self.subTest(seed=seed, kind=kind.__name__):
                    draw = random.Random(f"{kind.__name__} {seed}")
                    row = kind(draw)
                    keep = draw.choice((1, 2, 3, 5, 10, 50, 1000))
                    self.assert_true_of(row, self.joined_anyhow(row, draw, keep), draw)
                    self.assert_true_of(row, self.joined_in_order(row, keep), draw)
                    self.assert_true_of(row, self.joined_by_halves(row, keep), draw)

    def test_a_row_without_thinning_is_told_exactly(self):
        for kind in KINDS:
            draw = random.Random(kind.__name__)
            row = kind(draw)
            pouch = self.joined_in_order(row, LONGEST)
            self.assertEqual(pouch[1], 0)
            for number, times in row:
                self.assertEqual(upto(pouch, number), (count_upto(row, number),) * 2)
                self.assertEqual(below(pouch, number), (count_below(row, number),) * 2)

    def test_two_thousand_runs(self):
        draw = random.Random(2000)
        row = [(draw.randint(-300, 300), draw.randint(1, 500000)) for _ in range(2000)]
        pouch = self.joined_by_halves(row, 100)
        self.assertLessEqual(len(pouch[3]), 200)
        self.assertIs(judge(row, pouch), True)
        self.assert_places(row, pouch, [1, pouch[0]] + [draw.randint(1, pouch[0]) for _ in range(20)])


if __name__ == "__main__":
    unittest.main()

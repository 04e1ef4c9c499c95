"""The most frequent: points 18 to 20, and what only Often tells."""

import copy
import itertools
import random
import unittest

from helpers import HUGE, LONGEST, stays
from pouch_checks import PouchChecks, filled
from rankpouch.often import Often, cut


def cut_by_the_words(counts, keep):
    """Point 18, written once more."""
    if len(counts) <= keep:
        return (sorted(counts), 0)
    taken = sorted([count for number, count in counts], reverse=True)[keep + 1 - 1]
    lessened = [(number, count - taken) for number, count in counts]
    return (sorted(pair for pair in lessened if pair[1] >= 1), taken)


class Cut(unittest.TestCase):
    def test_none(self):
        for keep in (1, 2, 1000):
            self.assertEqual(stays(cut, [], keep), ([], 0))

    def test_fewer_than_keep(self):
        self.assertEqual(stays(cut, [(7, 3)], 2), ([(7, 3)], 0))
        self.assertEqual(stays(cut, [(7, 3), (-2, 1)], 3), ([(-2, 1), (7, 3)], 0))
        self.assertEqual(stays(cut, [(7, 3), (-2, 1)], 1000), ([(-2, 1), (7, 3)], 0))

    def test_just_keep(self):
        self.assertEqual(stays(cut, [(7, 3)], 1), ([(7, 3)], 0))
        self.assertEqual(stays(cut, [(7, 3), (5, 9), (-2, 1)], 3), ([(-2, 1), (5, 9), (7, 3)], 0))

    def test_one_more(self):
        self.assertEqual(stays(cut, [(7, 3), (5, 9)], 1), ([(5, 6)], 3))
        self.assertEqual(stays(cut, [(7, 3), (5, 9), (-2, 1)], 2), ([(5, 8), (7, 2)], 1))

    def test_many_more(self):
        counts = [(9, 1), (8, 2), (7, 3), (6, 4), (5, 5), (4, 6)]
        self.assertEqual(stays(cut, counts, 1), ([(4, 1)], 5))
        self.assertEqual(stays(cut, counts, 2), ([(4, 2), (5, 1)], 4))
        self.assertEqual(stays(cut, counts, 5), ([(4, 5), (5, 4), (6, 3), (7, 2), (8, 1)], 1))

    def test_all_equal(self):
        counts = [(3, 4), (1, 4), (2, 4)]
        self.assertEqual(stays(cut, counts, 1), ([], 4))
        self.assertEqual(stays(cut, counts, 2), ([], 4))
        self.assertEqual(stays(cut, counts, 3), ([(1, 4), (2, 4), (3, 4)], 0))

    def test_equal_counts_about_the_place(self):
        # The counts at places keep and keep + 1 are equal, then those at keep + 1 and keep + 2.
        self.assertEqual(stays(cut, [(1, 5), (2, 3), (3, 3), (4, 1)], 2), ([(1, 2)], 3))
        self.assertEqual(stays(cut, [(1, 5), (2, 3), (3, 3), (4, 1)], 1), ([(1, 2)], 3))
        self.assertEqual(stays(cut, [(1, 5), (2, 3), (3, 3), (4, 1)], 3), ([(1, 4), (2, 2), (3, 2)], 1))

    def test_sorted_by_number(self):
        for order in itertools.permutations([(-5, 9), (0, 2), (3, 7), (HUGE, 8), (-HUGE, 3)]):
            self.assertEqual(stays(cut, list(order), 3), ([(-5, 6), (3, 4), (HUGE, 5)], 3))
            self.assertEqual(stays(cut, list(order), 5), ([(-HUGE, 3), (-5, 9), (0, 2), (3, 7), (HUGE, 8)], 0))

    def test_great_counts(self):
        self.assertEqual(stays(cut, [(1, LONGEST), (2, LONGEST - 1)], 1), ([(1, 1)], LONGEST - 1))
        self.assertEqual(stays(cut, [(1, HUGE), (2, 1), (3, 2)], 1), ([(1, HUGE - 2)], 2))

    def test_long_lists(self):
        counts = [(number * 7 % 2000, number + 1) for number in range(2000)]
        for keep in (1, 999, 1000):
            left, taken = stays(cut, counts, keep)
            self.assertEqual(taken, 2000 - keep)
            self.assertEqual(left, sorted((number, count - taken) for number, count in counts[-keep:]))

    def test_its_kinds(self):
        for counts in ([], [(1, 1)], [(1, 1), (2, 5)]):
            told = cut(counts, 1)
            self.assertIs(type(told), tuple)
            self.assertEqual([type(part) for part in told], [list, int])
            self.assertEqual({type(pair) for pair in told[0]} | {tuple}, {tuple})

    def test_what_is_told_is_new(self):
        for counts in ([], [(1, 1)], [(1, 1), (2, 5)]):
            for keep in (1, 2):
                before = list(counts)
                left = cut(counts, keep)[0]
                kept = list(left)
                self.assertIsNot(left, counts)
                left.append((99, 1))
                self.assertEqual(counts, before)
                self.assertEqual(cut(counts, keep)[0], kept)

    def test_all_small_ones(self):
        for many in range(6):
            for some in itertools.product((1, 2, 4), repeat=many):
                counts = [(number * 3 % 7, count) for number, count in enumerate(some)]
                for keep in (1, 2, 3, 5):
                    left, taken = cut(counts, keep)
                    self.assertEqual((left, taken), cut_by_the_words(counts, keep))
                    self.assertLessEqual(len(left), keep)
                    self.assertLessEqual(taken * (keep + 1), sum(some) - sum(count for number, count in left))


class ByHand(unittest.TestCase):
    def test_keep_1(self):
        pouch = Often(1)
        told = []
        for number in (5, 5, 5, 3, 5, 4):
            pouch.put(number)
            told.append((pouch.counts(), pouch.off()))
        self.assertEqual(told, [([(5, 1)], 0), ([(5, 2)], 0), ([(5, 3)], 0), ([(5, 2)], 1), ([(5, 3)], 1),
                                ([(5, 2)], 2)])
        self.assertEqual((pouch.length(), pouch.puts(), pouch.held(), pouch.numbers()), (6, 6, 1, [5]))
        self.assertEqual([pouch.counted(number) for number in (5, 3, 4, 99)], [(2, 4), (0, 2), (0, 2), (0, 2)])
        self.assertEqual([pouch.often(least) for least in (1, 2, 3, 4, 5)], [[5], [5], [5], [5], []])

    def test_runs(self):
        pouch = filled(Often, 2, [(7, 10), (3, 4), (7, 1), (9, 5)])
        self.assertEqual((pouch.counts(), pouch.off()), ([(7, 7), (9, 1)], 4))
        self.assertEqual([pouch.counted(number) for number in (3, 7, 9)], [(0, 4), (7, 11), (1, 5)])
        self.assertEqual([pouch.often(least) for least in (1, 4, 5, 6, 11, 12)], [[7, 9]] * 3 + [[7]] * 2 + [[]])

    def test_all_may_go(self):
        pouch = filled(Often, 2, [(1, 3), (2, 3), (3, 3)])
        self.assertEqual((pouch.counts(), pouch.off(), pouch.held(), pouch.numbers()), ([], 3, 0, []))
        self.assertEqual([pouch.counted(number) for number in (1, 2, 3, 4)], [(0, 3)] * 4)
        self.assertEqual([pouch.often(least) for least in (1, 3, 4)], [[], [], []])

    def test_joined(self):
        pouch = filled(Often, 2, [(1, 5), (2, 3)])
        pouch.join(filled(Often, 2, [(1, 1), (4, 4)]))
        self.assertEqual((pouch.counts(), pouch.off()), ([(1, 3), (4, 1)], 3))
        self.assertEqual((pouch.length(), pouch.puts(), pouch.held()), (13, 4, 2))

    def test_joined_with_what_both_lost(self):
        pouch = filled(Often, 1, [(1, 5), (2, 2)])
        other = filled(Often, 1, [(1, 4), (3, 1)])
        self.assertEqual((pouch.off(), other.off()), (2, 1))
        pouch.join(other)
        self.assertEqual((pouch.counts(), pouch.off(), pouch.counted(1)), ([(1, 6)], 3, (6, 9)))
        pouch.join(pouch)
        self.assertEqual((pouch.counts(), pouch.off(), pouch.counted(1)), ([(1, 12)], 6, (12, 18)))

    def test_up_to_keep_unlike_numbers_are_told_exactly(self):
        for keep in (1, 2, 1000):
            row = [(number * 37 % 1009, number % 5 + 1) for number in range(keep)]
            pouch = filled(Often, keep, row * 2)
            self.assertEqual((pouch.off(), pouch.held()), (0, keep))
            self.assertEqual(pouch.counts(), sorted((number, 2 * times) for number, times in row))

    def test_one_more_than_keep(self):
        for keep in (1, 2, 1000):
            pouch = filled(Often, keep, [(number, 2) for number in range(keep)])
            pouch.put(-1)
            self.assertEqual((pouch.counts(), pouch.off()), ([(number, 1) for number in range(keep)], 1))
            pouch.put(-1)
            self.assertEqual((pouch.counts(), pouch.off()), ([], 2))

    def test_the_longest_run(self):
        for keep in (1, 1000):
            pouch = filled(Often, keep, [(-HUGE, LONGEST)])
            self.assertEqual(pouch.counts(), [(-HUGE, LONGEST)])
            self.assertEqual([pouch.counted(-HUGE), pouch.counted(HUGE)], [(LONGEST, LONGEST), (0, 0)])
            self.assertEqual([pouch.often(LONGEST), pouch.often(LONGEST + 1)], [[-HUGE], []])


class Asked(unittest.TestCase):
    def test_by_name(self):
        self.assertEqual(cut(counts=[(1, 2), (3, 5)], keep=1), ([(3, 3)], 2))
        pouch = Often(keep=1)
        pouch.put(number=4, times=3)
        self.assertEqual((pouch.counted(number=4), pouch.often(least=3)), ((3, 3), [4]))

    def test_below_at_and_above_off(self):
        pouch = filled(Often, 3, [(1, 20), (2, 9), (3, 6), (4, 5), (5, 1), (6, 3)])
        off = pouch.off()
        self.assertGreater(off, 1)
        highs = {number: count + off for number, count in pouch.counts()}
        for least in range(1, 30):
            self.assertEqual(pouch.often(least), sorted(number for number in highs if highs[number] >= least))
        self.assertEqual(pouch.often(off), pouch.numbers())
        self.assertEqual(pouch.often(off + 1), pouch.numbers())

    def test_great_counts(self):
        for least in (LONGEST + 1, HUGE, 10 ** 5000):
            self.assertEqual(filled(Often, 3, [(1, LONGEST)]).often(least), [])


class Drawn(unittest.TestCase, PouchChecks):
    def skewed(self, draw, many):
        """Few numbers that come often among many that come seldom."""
        return [(draw.choice((1, -1)) * int(20 / (draw.random() + 0.02)), draw.choice((1, 1, 2, 9)))
                for _ in range(many)]

    def test_put_in_any_order(self):
        for seed in range(20):
            draw = random.Random(f"often {seed}")
            row = self.skewed(draw, 300)
            for keep in (1, 2, 5, 30, 1000):
                for order in (row, sorted(row), sorted(row, reverse=True), draw.sample(row, len(row))):
                    self.assert_true_of(order, filled(Often, keep, order))

    def test_joined_in_any_grouping(self):
        for seed in range(40):
            draw = random.Random(f"often joined {seed}")
            keep = draw.choice((1, 2, 5, 30))
            parts = [self.skewed(draw, draw.randint(0, 60)) for _ in range(8)]
            while len(parts) > 1:
                one = parts.pop(draw.randrange(len(parts)))
                other = parts.pop(draw.randrange(len(parts)))
                if isinstance(one, list):
                    one = (one, filled(Often, keep, one))
                if isinstance(other, list):
                    other = (other, filled(Often, keep, other))
                one[1].join(other[1])
                self.assert_true_of(*other, many=10)
                parts.append((one[0] + other[0], one[1]))
            self.assert_true_of(*parts[0])

    def test_each_moment(self):
        for keep in (1, 2, 3):
            draw = random.Random(f"each moment {keep}")
            row = self.skewed(draw, 120)
            pouch = Often(keep)
            for at, run in enumerate(row, start=1):
                pouch.put(*run)
                self.assert_true_of(row[:at], pouch, many=10)

    def test_the_bound_is_met(self):
        # A row of unlike numbers, each once: off is as great as point 20 lets it be.
        for keep in (1, 2, 9):
            pouch = filled(Often, keep, [(number, 1) for number in range(10 * (keep + 1))])
            self.assertEqual((pouch.off(), pouch.held()), (10, 0))

    def test_what_was_told_stays(self):
        pouch = filled(Often, 3, [(1, 20), (2, 9), (3, 6), (4, 5)])
        told = [pouch.counts(), pouch.often(1), pouch.numbers()]
        kept = copy.deepcopy(told)
        pouch.put(1, 7)
        pouch.put(9, 90)
        pouch.join(pouch)
        self.assertEqual(told, kept)
        kept = [pouch.counts(), pouch.often(1), pouch.numbers()]
        for some in (pouch.counts(), pouch.often(1), pouch.numbers()):
            some.clear()
        self.assertEqual([pouch.counts(), pouch.often(1), pouch.numbers()], kept)


if __name__ == "__main__":
    unittest.main()

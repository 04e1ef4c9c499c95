"""Pouches by gaps: point 15, and the edges of its bounds."""

import unittest

from helpers import HUGE, LONGEST, exact
from pouch_checks import PouchChecks, filled, most_held, most_off
from rankpouch.gaps import empty, merged, of_run
from rankpouch.ladder import Gaps


def ones(numbers):
    return [(number, 1) for number in numbers]


class ByHand(unittest.TestCase):
    def test_keep_1(self):
        pouch = Gaps(1)
        told = [pouch.pouch()]
        for number in (1, 2, 3, 4, 5):
            pouch.put(number)
            told.append(pouch.pouch())
        self.assertEqual(told, [empty(), exact([1]), exact([1, 2]), exact([1, 2, 3]),
                                (4, 4, 1, [(1, 1, 1), (4, 4, 4)]),
                                (5, 4, 1, [(1, 1, 1), (4, 4, 4), (5, 5, 5)])])
        self.assertEqual((pouch.length(), pouch.puts(), pouch.held(), pouch.off()), (5, 5, 3, 4))
        self.assertEqual(pouch.numbers(), [1, 4, 5])
        self.assertEqual([pouch.upto(number) for number in (0, 1, 3, 4, 5)], [(0, 0), (1, 3), (1, 3), (4, 4), (5, 5)])
        self.assertEqual([pouch.below(number) for number in (1, 2, 4, 5)], [(0, 0), (1, 3), (1, 3), (4, 4)])
        self.assertEqual(pouch.between(2, 4), (1, 3))
        self.assertEqual(pouch.counted(4), (1, 3))
        self.assertEqual([pouch.so_manieth(place) for place in (1, 2, 3, 4, 5)], [1, 4, 5, 5, 5])

    def test_runs(self):
        pouch = filled(Gaps, 2, [(5, 3), (2, 1), (5, 2)])
        self.assertEqual(pouch.pouch(), (6, 0, 0, [(2, 1, 1), (5, 2, 2), (5, 6, 6)]))
        self.assertEqual((pouch.held(), pouch.puts(), pouch.length()), (3, 3, 6))

    def test_joined(self):
        pouch = filled(Gaps, 2, ones([1, 4]))
        pouch.join(filled(Gaps, 2, ones([3, 2])))
        self.assertEqual(pouch.pouch(), exact([1, 2, 3, 4]))
        pouch.join(filled(Gaps, 2, ones([5, 6])))
        self.assertEqual(pouch.pouch(), (6, 3, 1, [(1, 1, 1), (5, 5, 5), (6, 6, 6)]))


class Pouches(unittest.TestCase):
    def test_it_is_the_empty_one_or_that_of_a_run(self):
        for keep in (1, 2, 1000):
            self.assertEqual(Gaps(keep).pouch(), empty())
            for number in (0, 7, -HUGE, HUGE):
                for times in (1, 2, 3, LONGEST):
                    self.assertEqual(filled(Gaps, keep, [(number, times)]).pouch(), of_run(number, times))

    def test_its_kinds(self):
        told = filled(Gaps, 1, ones(range(20))).pouch()
        self.assertIs(type(told), tuple)
        self.assertEqual([type(part) for part in told], [int, int, int, list])
        for entry in told[3]:
            self.assertIs(type(entry), tuple)
            self.assertEqual([type(number) for number in entry], [int, int, int])

    def test_what_it_told_is_taken_again(self):
        pouch = filled(Gaps, 3, ones(range(500)))
        other = filled(Gaps, 3, ones(range(250, 750)))
        both = merged(pouch.pouch(), other.pouch())
        self.assertEqual(both[:2], (1000, pouch.off() + other.off()))


class Bounds(unittest.TestCase, PouchChecks):
    def test_a_number_that_comes_again_costs_nothing(self):
        for keep in (1, 2, 1000):
            pouch = filled(Gaps, keep, ones([7]) * 5000)
            self.assertEqual((pouch.length(), pouch.puts(), pouch.held(), pouch.off()), (5000, 5000, 2, 0))
            self.assertEqual(pouch.counted(7), (5000, 5000))

    def test_each_put(self):
        for keep in (1, 2, 3, 10):
            for times in (1, 2):
                pouch = Gaps(keep)
                for number in range(40 * (keep + 1)):
                    pouch.put(number * 7919 % 1009, times)
                    self.assertLessEqual(pouch.held(), most_held(pouch))
                    self.assertLessEqual(pouch.off(), most_off(pouch))

    def test_without_slack_until_twice_as_many_puts(self):
        for keep in (1, 2, 5, 1000):
            row = [(-number, 2) for number in range(2 * keep + 1)]
            pouch = filled(Gaps, keep, row)
            self.assertEqual(pouch.off(), 0)
            self.assert_true_of(row, pouch)
            for number, times in row:
                self.assertEqual(pouch.counted(number), (2, 2))

    def test_keep_1000_at_the_edges(self):
        pouch = Gaps(1000)
        row = []
        for number in range(4 * 1001):
            pouch.put(number, 2)
            row.append((number, 2))
            if len(row) in (1, 1000, 1001, 1002, 2001, 2002, 2003, 3003, 4003, 4004):
                self.assert_true_of(row, pouch, many=10)

    def test_many_full_ones_joined(self):
        for keep in (1, 2, 7):
            for puts in (keep - 1, keep, keep + 1, 2 * keep + 1):
                pouch = Gaps(keep)
                row = []
                for at in range(60):
                    part = [(at * 31 % 17 * 100 + more, 2) for more in range(puts)]
                    pouch.join(filled(Gaps, keep, part))
                    row += part
                    self.assertLessEqual(pouch.held(), most_held(pouch))
                    self.assertLessEqual(pouch.off(), most_off(pouch))
                self.assert_true_of(row, pouch)


if __name__ == "__main__":
    unittest.main()

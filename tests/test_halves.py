"""Halving, and pouches by halves: points 16 and 17."""

import itertools
import unittest

from helpers import HUGE, LONGEST, stays
from pouch_checks import PouchChecks, filled, most_held, most_off
from rankpouch.halves import Halves, halved


def ones(numbers):
    return [(number, 1) for number in numbers]


class Halved(unittest.TestCase):
    def test_none(self):
        self.assertEqual([stays(halved, [], turn) for turn in (0, 1)], [([], [])] * 2)

    def test_one(self):
        for number in (0, 7, -HUGE, HUGE):
            self.assertEqual([stays(halved, [number], turn) for turn in (0, 1)], [([], [number])] * 2)

    def test_two(self):
        self.assertEqual([stays(halved, [9, -4], turn) for turn in (0, 1)], [([-4], []), ([9], [])])

    def test_three(self):
        self.assertEqual([stays(halved, [3, 9, 5], turn) for turn in (0, 1)], [([3], [9]), ([5], [9])])

    def test_an_even_number(self):
        some = [6, 2, 5, 1, 4, 3]
        self.assertEqual([stays(halved, some, turn) for turn in (0, 1)], [([1, 3, 5], []), ([2, 4, 6], [])])

    def test_an_odd_number(self):
        some = [6, 2, 7, 5, 1, 4, 3]
        self.assertEqual([stays(halved, some, turn) for turn in (0, 1)], [([1, 3, 5], [7]), ([2, 4, 6], [7])])

    def test_equal_ones(self):
        some = [5, 2, 5, 5, 2]
        self.assertEqual([stays(halved, some, turn) for turn in (0, 1)], [([2, 5], [5]), ([2, 5], [5])])
        self.assertEqual([stays(halved, [4] * 5, turn) for turn in (0, 1)], [([4, 4], [4])] * 2)
        self.assertEqual([stays(halved, [4] * 4, turn) for turn in (0, 1)], [([4, 4], [])] * 2)

    def test_numbers_of_sixty_figures(self):
        some = [HUGE, -HUGE, HUGE - 1, 1 - HUGE]
        self.assertEqual([stays(halved, some, turn) for turn in (0, 1)],
                         [([-HUGE, HUGE - 1], []), ([1 - HUGE, HUGE], [])])

    def test_long_lists(self):
        for many in (1999, 2000):
            some = [number * 7 % many for number in range(many)]
            for turn in (0, 1):
                left = [many - 1] if many % 2 else []
                self.assertEqual(stays(halved, some, turn), (list(range(turn, many - many % 2, 2)), left))

    def test_its_kinds(self):
        for some in ([], [1], [1, 2], [1, 2, 3]):
            told = halved(some, 0)
            self.assertIs(type(told), tuple)
            self.assertEqual([type(part) for part in told], [list, list])

    def test_what_is_told_is_new(self):
        for some in ([], [5], [5, 6], [5, 6, 7]):
            for turn in (0, 1):
                told = halved(some, turn)
                kept = (list(told[0]), list(told[1]))
                before = list(some)
                told[0].append(99)
                told[1].append(99)
                self.assertEqual(some, before)
                self.assertEqual(halved(some, turn), kept)

    def test_all_small_lists(self):
        for many in range(8):
            for some in itertools.product((0, 1, 2, 4), repeat=many):
                kept = [halved(list(some), turn) for turn in (0, 1)]
                left = [max(some)] if many % 2 else []
                were_halved = sorted(some)[:many - len(left)]
                for turn in (0, 1):
                    self.assertEqual(kept[turn][0], sorted(kept[turn][0]))
                    self.assertEqual(kept[turn][1], left)
                self.assertEqual(sorted(kept[0][0] + kept[1][0]), were_halved)
                for bound in range(-1, 6):
                    count = sum(number <= bound for number in were_halved)
                    doubled = [2 * sum(number <= bound for number in kept[turn][0]) for turn in (0, 1)]
                    self.assertIn(doubled[0] - count, (0, 1))
                    self.assertIn(doubled[1] - count, (0, -1))


class ByHand(unittest.TestCase):
    def test_keep_1(self):
        pouch = Halves(1)
        told = [(pouch.weights(), pouch.off())]
        for number in (1, 2, 3, 4, 5):
            pouch.put(number)
            told.append((pouch.weights(), pouch.off()))
        self.assertEqual(told, [([], 0), ([(1, 1)], 0), ([(1, 2)], 1), ([(1, 2), (3, 1)], 1), ([(1, 4)], 4),
                                ([(1, 4), (5, 1)], 4)])
        self.assertEqual((pouch.length(), pouch.puts(), pouch.held(), pouch.numbers()), (5, 5, 2, [1, 5]))
        self.assertEqual([pouch.upto(number) for number in (0, 1, 4, 5)], [(0, 1), (1, 5), (1, 5), (2, 5)])
        self.assertEqual([pouch.below(number) for number in (1, 2, 5, 6)], [(0, 1), (1, 5), (1, 5), (2, 5)])
        self.assertEqual(pouch.between(2, 5), (0, 4))
        self.assertEqual(pouch.counted(5), (0, 4))
        self.assertEqual([pouch.so_manieth(place) for place in (1, 2, 4, 5)], [1, 1, 1, 5])

    def test_keep_2(self):
        pouch = filled(Halves, 2, ones([4, 1, 3]))
        self.assertEqual((pouch.weights(), pouch.off()), ([(1, 1), (3, 1), (4, 1)], 0))
        pouch.put(2)
        self.assertEqual((pouch.weights(), pouch.off()), ([(1, 2), (3, 2)], 1))
        pouch.put(9, 2)
        self.assertEqual((pouch.weights(), pouch.off()), ([(1, 2), (3, 2), (9, 2)], 1))
        self.assertEqual([pouch.upto(number) for number in (1, 2, 3, 9)], [(1, 2), (1, 2), (3, 4), (5, 6)])

    def test_one_is_left_over(self):
        pouch = filled(Halves, 1, ones([8]))
        pouch.join(filled(Halves, 1, [(9, 3)]))
        self.assertEqual((pouch.weights(), pouch.off()), ([(8, 4)], 3))
        pouch = filled(Halves, 2, ones([1, 2, 3]))
        pouch.join(filled(Halves, 2, ones([4, 5])))
        self.assertEqual((pouch.weights(), pouch.off()), ([(1, 2), (3, 2), (5, 1)], 1))

    def test_a_run_is_put_by_its_binary_figures(self):
        self.assertEqual(filled(Halves, 1, [(7, 5)]).weights(), [(7, 1), (7, 4)])
        self.assertEqual(filled(Halves, 1000, [(-7, 8)]).weights(), [(-7, 8)])
        for times in (LONGEST - 1, LONGEST):
            weights = [2 ** figure for figure in range(30) if times >> figure & 1]
            for keep in (1, 1000):
                pouch = filled(Halves, keep, [(-HUGE, times)])
                self.assertEqual(pouch.weights(), [(-HUGE, weight) for weight in weights])
                self.assertEqual((pouch.off(), pouch.held()), (0, len(weights)))

    def test_both_turns_come_by_turns(self):
        pouch = filled(Halves, 2, ones(range(8)))
        self.assertEqual(pouch.weights(), [(0, 4), (5, 4)])
        self.assertEqual(pouch.off(), 4)


class Weights(unittest.TestCase):
    def test_its_kinds(self):
        self.assertEqual(Halves(3).weights(), [])
        told = filled(Halves, 2, [(number * 7 % 20, 3) for number in range(20)]).weights()
        self.assertIs(type(told), list)
        for pair in told:
            self.assertIs(type(pair), tuple)
            self.assertEqual([type(number) for number in pair], [int, int])


class Bounds(unittest.TestCase, PouchChecks):
    def test_each_put(self):
        for keep in (1, 2, 3, 10):
            for times in (1, 2, 3, 127, 128):
                pouch = Halves(keep)
                for number in range(40 * keep):
                    pouch.put(number * 7919 % 1009, times)
                    self.assertLessEqual(pouch.held(), most_held(pouch))
                    self.assertLessEqual(pouch.off(), most_off(pouch))

    def test_nothing_is_off_below_twice_keep(self):
        for keep in (1, 2, 5, 1000):
            row = ones(range(2 * keep - 1, 0, -1))
            pouch = filled(Halves, keep, row)
            self.assertEqual((pouch.off(), pouch.held()), (0, 2 * keep - 1))
            self.assert_true_of(row, pouch)
            pouch.put(0)
            self.assertEqual((pouch.off(), pouch.held()), (1, keep))
            self.assert_true_of(row + [(0, 1)], pouch)

    def test_many_full_ones_joined(self):
        for keep in (1, 2, 7):
            for puts in (2 * keep - 1, 2 * keep, 4 * keep - 1):
                pouch = Halves(keep)
                row = []
                for at in range(60):
                    part = ones(at * 31 % 17 * 100 + more for more in range(puts))
                    pouch.join(filled(Halves, keep, part))
                    row += part
                    self.assertLessEqual(pouch.held(), most_held(pouch))
                    self.assertLessEqual(pouch.off(), most_off(pouch))
                self.assert_true_of(row, pouch)

    def test_bounds_are_cut_to_the_length(self):
        for numbers in (range(40), range(40, 0, -1)):
            pouch = filled(Halves, 1, ones(numbers))
            for number in range(-1, 42):
                for low, high in (pouch.upto(number), pouch.below(number)):
                    self.assertTrue(0 <= low and high <= 40)
            self.assertEqual(pouch.below(-HUGE)[0], 0)
            self.assertEqual(pouch.upto(HUGE)[1], 40)


if __name__ == "__main__":
    unittest.main()

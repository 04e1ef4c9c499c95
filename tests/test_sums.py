"""Sums of the last numbers: points 22 and 23."""

import copy
import itertools
import random
import unittest

from helpers import HUGE
from pouch_checks import some_of
from rankpouch.errors import NoPlace, RankError
from rankpouch.sums import Sums

NO_PLACE = (0, -1, -2, -1000, -HUGE, -10 ** 5000)


def filled(keep, numbers):
    sums = Sums(keep)
    for number in numbers:
        sums.put(number)
    return sums


def put_by_the_words(groups, keep, number):
    """Point 22, written once more, over a list of lists of numbers, the oldest first."""
    groups = groups + [[number]]
    many = 1
    while many <= sum(map(len, groups)):
        places = [at for at, group in enumerate(groups) if len(group) == many]
        if len(places) > keep:
            one, other = places[:2]
            groups = groups[:one] + [groups[one] + groups[other]] + groups[other + 1:]
        many *= 2
    return groups


def blocks_of(groups):
    return [(len(group), sum(group), min(group), max(group)) for group in groups]


class SumsTest(unittest.TestCase):
    def assert_refused(self, sums, many):
        with self.assertRaises(RankError) as caught:
            sums.last(many)
        self.assertIs(type(caught.exception), NoPlace)

    def assert_blocks(self, numbers, keep, blocks):
        """All that point 22 says of the blocks by themselves."""
        self.assertIs(type(blocks), list)
        self.assertEqual({type(block) for block in blocks} | {tuple}, {tuple})
        start = 0
        for many, total, least, greatest in blocks:
            some = numbers[start:start + many]
            self.assertEqual((len(some), many & (many - 1)), (many, 0))
            self.assertEqual((total, least, greatest), (sum(some), min(some), max(some)))
            start += many
        self.assertEqual(start, len(numbers))
        manies = [block[0] for block in blocks]
        self.assertEqual(manies, sorted(manies, reverse=True))
        for many in set(manies):
            self.assertLessEqual(manies.count(many), keep)

    def assert_last(self, numbers, keep, sums, many):
        told = sums.last(many)
        self.assertIs(type(told), tuple)
        self.assertEqual([type(bound) for bound in told], [int, int])
        self.assertTrue(told[0] <= sum(numbers[-many:]) <= told[1], (many, told))
        self.assertEqual(told, self.last_by_the_words(sums.blocks(), keep, many))

    def last_by_the_words(self, blocks, keep, many):
        """Point 23, written once more; looks at what it says of the block that lies in them with some."""
        behind = 0
        low = high = 0
        for size, total, least, greatest in blocks[::-1]:
            some = max(0, min(size, many - behind))
            if some == size:
                low, high = low + total, high + total
            elif some > 0:
                low, high = low + some * least, high + some * greatest
                self.assertLess((size - 1) * (keep - 1), many)
            behind += size
        return (low, high)

    def assert_true_of(self, numbers, keep, sums, manies=None):
        before = sums.blocks()
        self.assert_blocks(numbers, keep, before)
        for many in range(1, len(numbers) + 1) if manies is None else manies:
            self.assert_last(numbers, keep, sums, many)
        for many in NO_PLACE + (len(numbers) + 1, len(numbers) + 2, HUGE, 10 ** 5000):
            self.assert_refused(sums, many)
        if numbers:
            self.assertEqual(sums.last(1), (numbers[-1], numbers[-1]))
            self.assertEqual(sums.last(len(numbers)), (sum(numbers), sum(numbers)))
        self.assertEqual(sums.blocks(), before)


class ByHand(SumsTest):
    def test_nothing_put_in(self):
        for keep in (2, 3, 1000):
            sums = Sums(keep)
            self.assertEqual(sums.blocks(), [])
            for many in NO_PLACE + (1, 2, 1000):
                self.assert_refused(sums, many)
            self.assert_true_of([], keep, sums)

    def test_one_put(self):
        for keep in (2, 1000):
            for number in (0, 7, -7, HUGE, -HUGE):
                sums = Sums(keep=keep)
                self.assertIsNone(sums.put(number=number))
                self.assertEqual(sums.blocks(), [(1, number, number, number)])
                self.assertEqual(sums.last(many=1), (number, number))
                self.assert_refused(sums, 2)

    def test_keep_2(self):
        sums = Sums(2)
        told = []
        for number in (5, -1, 4, 3, 0, 9, 2):
            sums.put(number)
            told.append(sums.blocks())
        self.assertEqual(told, [
            [(1, 5, 5, 5)],
            [(1, 5, 5, 5), (1, -1, -1, -1)],
            [(2, 4, -1, 5), (1, 4, 4, 4)],
            [(2, 4, -1, 5), (1, 4, 4, 4), (1, 3, 3, 3)],
            [(2, 4, -1, 5), (2, 7, 3, 4), (1, 0, 0, 0)],
            [(2, 4, -1, 5), (2, 7, 3, 4), (1, 0, 0, 0), (1, 9, 9, 9)],
            [(4, 11, -1, 5), (2, 9, 0, 9), (1, 2, 2, 2)]])
        self.assertEqual([sums.last(many) for many in range(1, 8)],
                         [(2, 2), (2, 11), (11, 11), (10, 16), (9, 21), (8, 26), (22, 22)])
        self.assert_refused(sums, 8)

    def test_just_keep_and_one_more(self):
        for keep in (2, 3, 1000):
            sums = filled(keep, range(keep))
            self.assertEqual(sums.blocks(), [(1, number, number, number) for number in range(keep)])
            sums.put(-5)
            self.assertEqual(sums.blocks()[0], (2, 1, 0, 1))
            self.assertEqual(sums.blocks()[-1], (1, -5, -5, -5))
            self.assertEqual(len(sums.blocks()), keep)

    def test_numbers_of_sixty_figures(self):
        sums = filled(2, [HUGE, -HUGE, HUGE, HUGE, -HUGE])
        self.assertEqual(sums.blocks(), [(2, 0, -HUGE, HUGE), (2, 2 * HUGE, HUGE, HUGE), (1, -HUGE, -HUGE, -HUGE)])
        self.assertEqual([sums.last(many) for many in range(1, 6)],
                         [(-HUGE, -HUGE), (0, 0), (HUGE, HUGE), (0, 2 * HUGE), (HUGE, HUGE)])


class EachPut(SumsTest):
    def assert_each_put(self, numbers, keep):
        sums = Sums(keep)
        groups = []
        for number in numbers:
            sums.put(number)
            groups = put_by_the_words(groups, keep, number)
            self.assertEqual(sums.blocks(), blocks_of(groups))

    def test_all_small_rows(self):
        for numbers in itertools.product((-1, 0, 3), repeat=7):
            for keep in (2, 3):
                self.assert_each_put(numbers, keep)
        for many in range(6):
            for numbers in itertools.product((-1, 0, 3), repeat=many):
                self.assert_true_of(list(numbers), 2, filled(2, numbers))

    def test_drawn_rows(self):
        for keep in (2, 3, 4, 7, 30, 1000):
            draw = random.Random(f"each put {keep}")
            self.assert_each_put([draw.randint(-99, 99) for _ in range(130)], keep)
            self.assert_each_put([draw.randint(-HUGE, HUGE) for _ in range(130)], keep)

    def test_every_last_at_each_moment(self):
        draw = random.Random("every last")
        for keep in (2, 3, 5, 1000):
            numbers = [draw.randint(-9, 20) for _ in range(60)]
            sums = Sums(keep)
            for at, number in enumerate(numbers, start=1):
                sums.put(number)
                self.assert_true_of(numbers[:at], keep, sums)


class Drawn(SumsTest):
    def test_rows_of_every_kind(self):
        for seed in range(8):
            draw = random.Random(f"sums {seed}")
            keep = draw.choice((2, 3, 10, 100, 1000))
            for lowest, greatest in ((-5, 5), (0, 9999), (-9999, -1), (-HUGE, HUGE)):
                numbers = [draw.randint(lowest, greatest) for _ in range(draw.randint(1, 1500))]
                sums = filled(keep, numbers)
                self.assert_true_of(numbers, keep, sums, some_of(range(1, len(numbers) + 1), 150))

    def test_keep_1000_with_many(self):
        draw = random.Random("many")
        numbers = [draw.randint(-1000, 1000) for _ in range(9000)]
        sums = Sums(1000)
        for at, number in enumerate(numbers, start=1):
            sums.put(number)
            if at in (999, 1000, 1001, 1002, 3000, 3001, 3002, 9000):
                self.assert_true_of(numbers[:at], 1000, sums, some_of(range(1, at + 1), 40))

    def test_keep_2_with_many(self):
        draw = random.Random("few kept of many")
        numbers = [draw.randint(-1000, 1000) for _ in range(20000)]
        sums = filled(2, numbers)
        self.assertLessEqual(len(sums.blocks()), 2 * len(numbers).bit_length())
        self.assert_true_of(numbers, 2, sums, some_of(range(1, 20001), 60))

    def test_keep_just_above_the_bound_is_not_refused(self):
        numbers = [number * 7 % 31 for number in range(1500)]
        for keep in (1001, 1010):
            self.assert_true_of(numbers, keep, filled(keep, numbers), some_of(range(1, 1501), 50))


class Told(SumsTest):
    def test_what_was_told_stays_when_more_is_put_in(self):
        sums = Sums(2)
        told = []
        for number in range(40):
            told.append(sums.blocks())
            sums.put(number)
        kept = copy.deepcopy(told)
        for number in range(40):
            sums.put(number)
        self.assertEqual(told, kept)
        self.assertEqual(told, [filled(2, range(many)).blocks() for many in range(40)])

    def test_what_was_told_may_be_changed(self):
        for many in (0, 1, 2, 3, 9, 40):
            sums = filled(2, range(many))
            before = sums.blocks()
            for change in (lambda some: some.append((1, 9, 9, 9)), list.reverse, list.clear):
                change(sums.blocks())
                self.assertEqual(sums.blocks(), before)
            sums.put(77)
            self.assertEqual(sums.blocks(), filled(2, list(range(many)) + [77]).blocks())

    def test_asking_changes_nothing(self):
        asked_often = Sums(3)
        for number in range(70):
            asked_often.put(number)
            for many in (0, 1, number + 1, number + 2):
                if 1 <= many <= number + 1:
                    self.assertEqual(asked_often.last(many), asked_often.last(many))
                else:
                    self.assert_refused(asked_often, many)
            self.assertEqual(asked_often.blocks(), asked_often.blocks())
        self.assertEqual(asked_often.blocks(), filled(3, range(70)).blocks())


if __name__ == "__main__":
    unittest.main()

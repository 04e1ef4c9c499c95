"""Windows: point 21, and what points 2 and 3 say of them."""

import bisect
import itertools
import random
import unittest

from helpers import HUGE
from pouch_checks import some_of
from rankpouch.errors import NoPlace, RankError
from rankpouch.windows import Window

NO_PLACE = (0, -1, -2, -10000, -HUGE, -10 ** 5000)


def filled(length, block, keep, numbers):
    window = Window(length, block, keep)
    for number in numbers:
        window.put(number)
    return window


def all_told(window, asked, lasts):
    """All that the window tells of these numbers and of these lasts, to be held against what it tells later."""
    told = [window.held()]
    for last in lasts:
        told.append(window.off(last))
        told += [window.upto(number, last) for number in asked]
        told += [window.so_manieth(place, last) for place in some_of(range(1, last + 1), 9)]
    return told


class WindowTest(unittest.TestCase):
    def assert_refused(self, function, *given):
        with self.assertRaises(RankError) as caught:
            function(*given)
        self.assertIs(type(caught.exception), NoPlace)

    def assert_true_of(self, numbers, sizes, window, lasts=None, many=12):
        """All that holds of a window of these sizes (length, block, keep) into which these numbers were put, in order.

        Asked are the lasts told, or all, and at most so many numbers and places of each.
        """
        length, block, keep = sizes
        most = min(length, len(numbers))
        self.assertLessEqual(window.held(), (length // block + 2) * 2 * keep + block)
        self.assertEqual(window.held() == 0, numbers == [])
        stand = set(numbers)
        for last in range(1, most + 1) if lasts is None else lasts:
            self.assert_off(sizes, window, last)
            self.assert_upto(sorted(numbers[-last:]), window, many)
            self.assert_so_manieth(stand, sorted(numbers[-last:]), window, many)
        self.assert_most(window, most)
        self.assert_no_places(window, most)

    def assert_off(self, sizes, window, last):
        length, block, keep = sizes
        off = window.off(last)
        self.assertIs(type(off), int)
        self.assertTrue(0 <= off <= block - 1 + (last // block + 1) * (block // keep), (off, last))

    def assert_upto(self, ordered, window, many):
        last = len(ordered)
        stand = sorted(set(ordered))
        asked = [number + more for number in some_of(stand, max(2, many // 3)) for more in (-1, 0, 1)] + [-HUGE, HUGE]
        for number in asked:
            told = window.upto(number, last)
            self.assertIs(type(told), tuple)
            self.assertEqual([type(bound) for bound in told], [int, int])
            low, high = told
            self.assertTrue(0 <= low <= bisect.bisect_right(ordered, number) <= high <= last, (number, last, told))
            self.assertLessEqual(high - low, window.off(last))

    def assert_so_manieth(self, stand, ordered, window, many):
        last = len(ordered)
        off = window.off(last)
        for place in some_of(range(1, last + 1), many):
            number = window.so_manieth(place, last)
            self.assertIn(number, stand)
            self.assertLess(bisect.bisect_left(ordered, number), place + off)
            self.assertGreaterEqual(bisect.bisect_right(ordered, number), place - off)

    def assert_most(self, window, most):
        """A last that is left out is the most that may be."""
        if most == 0:
            return
        self.assertEqual(window.off(), window.off(most))
        for number in (window.so_manieth(1), 0, HUGE, -HUGE):
            self.assertEqual(window.upto(number), window.upto(number, most))
        for place in some_of(range(1, most + 1), 4):
            self.assertEqual(window.so_manieth(place), window.so_manieth(place, most))

    def assert_no_places(self, window, most):
        for last in NO_PLACE + (most + 1, most + 2, 2 * most + 1, HUGE, 10 ** 5000):
            self.assert_refused(window.off, last)
            self.assert_refused(window.upto, 0, last)
            self.assert_refused(window.so_manieth, 1, last)
        for place in NO_PLACE + (most + 1, most + 2, 2 * most + 1, HUGE, 10 ** 5000):
            self.assert_refused(window.so_manieth, place)
        for last in some_of(range(1, most + 1), 4):
            for place in NO_PLACE + (last + 1, last + 2, last + 1000, HUGE, 10 ** 5000):
                self.assert_refused(window.so_manieth, place, last)


SIZES = list(itertools.product((1, 10000), (1, 1000), (1, 1000)))


class Nothing(WindowTest):
    def test_nothing_put_in(self):
        for sizes in SIZES + [(5, 2, 3), (2, 5, 3), (3, 2, 5)]:
            window = Window(*sizes)
            self.assertEqual(window.held(), 0)
            self.assert_refused(window.off)
            for last in (None, 0, 1, -1, 2, sizes[0]):
                self.assert_refused(window.off, last)
                for number in (0, 1, -HUGE, HUGE):
                    self.assert_refused(window.upto, number, last)
                for place in (1, 0, -1, 2):
                    self.assert_refused(window.so_manieth, place, last)
            self.assert_true_of([], sizes, window)


class ByHand(WindowTest):
    def test_one_put(self):
        for sizes in SIZES:
            for number in (0, 7, -HUGE, HUGE):
                window = Window(*sizes)
                self.assertIsNone(window.put(number))
                self.assertEqual(window.held(), 1)
                self.assertEqual([window.so_manieth(1), window.so_manieth(1, 1)], [number, number])
                self.assertEqual([window.upto(number), window.upto(number - 1, 1)], [(1, 1), (0, 0)])
                self.assert_true_of([number], sizes, window)

    def test_blocks_of_one_are_told_exactly(self):
        # With block 1 and a greater keep, off is at most 0.
        for keep in (2, 1000):
            window = filled(4, 1, keep, [9, 5, 1, 4, 4, 2])
            self.assertEqual([window.off(last) for last in (None, 1, 2, 3, 4)], [0] * 5)
            self.assertEqual([window.upto(number) for number in (0, 1, 2, 3, 4, 5)],
                             [(count, count) for count in (0, 1, 2, 2, 4, 4)])
            self.assertEqual([window.upto(number, 3) for number in (0, 1, 2, 3, 4, 5)],
                             [(count, count) for count in (0, 0, 1, 1, 3, 3)])
            self.assertEqual([window.so_manieth(place) for place in (1, 2, 3, 4)], [1, 2, 4, 4])
            self.assertEqual([window.so_manieth(place, 3) for place in (1, 2, 3)], [2, 4, 4])
            self.assertEqual([window.so_manieth(place, 2) for place in (1, 2)], [2, 4])
            self.assertEqual(window.so_manieth(1, last=1), 2)
            self.assertEqual(window.held(), 4)

    def test_by_name(self):
        window = filled(4, 1, 2, [9, 5, 1, 4, 4, 2])
        self.assertEqual(window.upto(number=3, last=3), (1, 1))
        self.assertEqual(window.so_manieth(place=1, last=2), 2)
        self.assertEqual(window.off(last=2), 0)
        named = Window(length=4, block=1, keep=2)
        self.assertIsNone(named.put(number=3))
        self.assertEqual(named.upto(3), (1, 1))

    def test_blocks_of_two(self):
        window = filled(4, 2, 3, [5, 1, 4, 2, 3])
        # Of the last four, 1 stands in a block that lies in them with one of its two numbers.
        self.assertEqual([window.off(last) for last in (1, 2, 3, 4, None)], [0, 1, 0, 1, 1])
        self.assertEqual([window.upto(number, 3) for number in (1, 2, 3, 4)], [(0, 0), (1, 1), (2, 2), (3, 3)])
        self.assertEqual([window.upto(number, 4) for number in (0, 1, 2, 4, 5)],
                         [(0, 0), (0, 1), (1, 2), (3, 4), (4, 4)])
        self.assertEqual([window.upto(number, 2) for number in (1, 2, 3, 4)], [(0, 0), (0, 1), (1, 2), (2, 2)])
        self.assertEqual([window.so_manieth(place, 3) for place in (1, 2, 3)], [2, 3, 4])
        self.assertEqual(window.held(), 5)

    def test_a_thinned_block(self):
        window = filled(6, 6, 1, [5, 1, 4, 2, 6, 3])
        self.assertEqual((window.off(6), window.held()), (6, 2))
        self.assertEqual([window.upto(number) for number in (0, 1, 5, 6)], [(0, 0), (1, 5), (1, 5), (6, 6)])
        self.assertEqual([window.upto(number, 4) for number in (0, 1, 5, 6)], [(0, 0), (0, 4), (0, 4), (4, 4)])

    def test_the_oldest_goes(self):
        window = filled(2, 2, 1000, [9, 9, 1, 2, 3])
        self.assertEqual(window.held(), 3)
        window.put(4)
        self.assertEqual(window.held(), 2)
        self.assertEqual([window.upto(number) for number in (2, 3, 4)], [(0, 0), (1, 1), (2, 2)])
        self.assertEqual([filled(3, 2, 1000, range(many)).held() for many in range(8)], [0, 1, 2, 3, 4, 3, 4, 3])

    def test_of_a_block_that_is_taken_whole_half_is_let_stand_ahead(self):
        window = filled(4, 4, 1000, [4, 3, 2, 1])
        self.assertEqual(window.so_manieth(1, 1), 2)
        self.assertEqual([window.so_manieth(place, 2) for place in (1, 2)], [2, 3])
        self.assertEqual([window.so_manieth(place, 3) for place in (1, 2, 3)], [1, 2, 3])
        self.assertEqual([window.so_manieth(place, 4) for place in (1, 2, 3, 4)], [1, 2, 3, 4])

    def test_length_one(self):
        for block, keep in ((1, 1), (1, 1000), (1000, 1), (1000, 1000), (3, 2)):
            window = Window(1, block, keep)
            numbers = []
            for number in (5, -5, HUGE, -HUGE, 0, 0, 7):
                window.put(number)
                numbers.append(number)
                self.assert_true_of(numbers, (1, block, keep), window)
                self.assert_refused(window.upto, 0, 2)
                self.assert_refused(window.so_manieth, 2)


class AllSmall(WindowTest):
    def test_all_small_rows(self):
        for many in range(1, 6):
            for numbers in itertools.product((0, 1, 3), repeat=many):
                for sizes in itertools.product((1, 2, 4), (1, 2, 3), (1, 2)):
                    self.assert_small(list(numbers), sizes)

    def assert_small(self, numbers, sizes):
        window = filled(*sizes, numbers)
        most = min(sizes[0], len(numbers))
        self.assertTrue(0 < window.held() <= (sizes[0] // sizes[1] + 2) * 2 * sizes[2] + sizes[1])
        for last in range(1, most + 1):
            ordered = sorted(numbers[-last:])
            self.assert_off(sizes, window, last)
            self.assert_upto(ordered, window, 9)
            self.assert_so_manieth(set(numbers), ordered, window, last)
        self.assert_refused(window.off, most + 1)
        self.assert_refused(window.so_manieth, most + 1)
        self.assert_refused(window.so_manieth, 0)

    def test_each_moment_of_longer_ones(self):
        numbers = [number * 5 % 13 for number in range(40)]
        for sizes in itertools.product((1, 5, 12), (1, 3, 4, 20), (1, 2, 30)):
            window = Window(*sizes)
            for at, number in enumerate(numbers, start=1):
                window.put(number)
                self.assert_true_of(numbers[:at], sizes, window, many=6)


class Drawn(WindowTest):
    def assert_drawn(self, numbers, sizes, moments=8, lasts=8, many=9):
        """Puts them in one by one, and looks at so many moments, so many lasts each."""
        window = Window(*sizes)
        looked = set(some_of(range(1, len(numbers) + 1), moments)) | {1, 2}
        looked |= {sizes[0], sizes[0] + 1, sizes[1], sizes[1] + 1}
        for at, number in enumerate(numbers, start=1):
            window.put(number)
            if at in looked:
                most = min(sizes[0], at)
                some = set(some_of(range(1, most + 1), lasts))
                some |= {last for last in (sizes[1] - 1, sizes[1], sizes[1] + 1) if 1 <= last <= most}
                self.assert_true_of(numbers[:at], sizes, window, sorted(some), many)

    def kinds(self, draw, many):
        return ([draw.randint(-3, 3) for _ in range(many)],
                [draw.randint(-9999, 9999) for _ in range(many)],
                [draw.choice((-1, 1)) * draw.choice((HUGE, HUGE - 1, 0, draw.randint(0, HUGE))) for _ in range(many)],
                sorted(draw.randint(-99, 99) for _ in range(many)),
                sorted((draw.randint(-99, 99) for _ in range(many)), reverse=True),
                [at // 7 % 11 * draw.choice((1, 1, -50)) for at in range(many)])

    def test_rows_of_every_kind(self):
        for seed in range(12):
            draw = random.Random(f"window {seed}")
            for numbers in self.kinds(draw, draw.randint(1, 300)):
                sizes = (draw.randint(1, 150), draw.choice((1, 2, 3, 10, 40, 200)), draw.choice((1, 2, 5, 20, 1000)))
                with self.subTest(seed=seed, sizes=sizes):
                    self.assert_drawn(numbers, sizes)

    def test_block_greater_than_length(self):
        draw = random.Random("greater block")
        for sizes in ((1, 2, 1), (5, 7, 2), (30, 100, 3), (99, 100, 10), (10, 1000, 7)):
            for numbers in self.kinds(draw, 350):
                self.assert_drawn(numbers, sizes, moments=12)

    def test_keep_greater_than_block(self):
        draw = random.Random("greater keep")
        for sizes in ((20, 5, 6), (50, 7, 1000), (33, 1, 2)):
            for numbers in self.kinds(draw, 150):
                self.assert_drawn(numbers, sizes)
                window = filled(*sizes, numbers)
                for last in range(1, sizes[0] + 1):
                    self.assertLess(window.off(last), sizes[1])

    def test_the_greatest_sizes(self):
        draw = random.Random("greatest")
        numbers = [draw.randint(-5000, 5000) for _ in range(12600)]
        for sizes in SIZES:
            with self.subTest(sizes=sizes):
                self.assert_drawn(numbers, sizes, moments=4, lasts=3, many=4)

    def test_just_beyond_the_bounds(self):
        draw = random.Random("beyond")
        numbers = [draw.randint(-50, 50) for _ in range(2100)]
        for sizes in ((10001, 1001, 1001), (5, 1010, 3), (20, 10, 1010)):
            self.assert_drawn(numbers, sizes, moments=4, lasts=4)


class Asking(WindowTest):
    def test_asking_changes_nothing(self):
        draw = random.Random("asking")
        numbers = [draw.randint(-30, 30) for _ in range(90)]
        for sizes in ((1, 1, 1), (20, 4, 2), (20, 50, 3), (200, 7, 1000)):
            asked_often = Window(*sizes)
            for at, number in enumerate(numbers, start=1):
                asked_often.put(number)
                lasts = some_of(range(1, min(sizes[0], at) + 1), 5)
                told = all_told(asked_often, [-31, 0, 5, number], lasts)
                self.assert_refused(asked_often.upto, 0, 0)
                self.assert_refused(asked_often.so_manieth, 0)
                self.assertEqual(all_told(asked_often, [-31, 0, 5, number], lasts), told)
            asked_once = filled(*sizes, numbers)
            self.assertEqual(all_told(asked_often, numbers, lasts), all_told(asked_once, numbers, lasts))

    def test_two_windows_know_nothing_of_one_another(self):
        one = filled(5, 2, 2, [1, 2, 3, 4, 5, 6])
        told = all_told(one, [1, 3, 6], [1, 2, 5])
        other = filled(5, 2, 2, [9] * 20)
        self.assertEqual(other.so_manieth(1), 9)
        self.assertEqual(all_told(one, [1, 3, 6], [1, 2, 5]), told)


if __name__ == "__main__":
    unittest.main()

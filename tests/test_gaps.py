import copy
import itertools
import unittest

from helpers import HUGE, LONGEST, exact, good_pouches, stays
from rankpouch.forms import look_pouch
from rankpouch.gaps import empty, merged, of_row, of_run, thinned
from rankpouch.judge import judge

ONE = (4, 1, 1, [(1, 1, 1), (3, 2, 3), (5, 4, 4)])
OTHER = (3, 0, 2, [(3, 1, 1), (4, 2, 2), (4, 3, 3)])


def least_of_last(entries, fits):
    leasts = [least for number, least, most in entries if fits(number)]
    return leasts[-1] if leasts else 0


def most_of_first(pouch, fits):
    mosts = [most for number, least, most in pouch[3] if fits(number)]
    return mosts[0] if mosts else pouch[0] + 1


def merged_by_the_words(one, other):
    """Point 9 written once more, each entry by itself."""
    first = [(number,
              least + least_of_last(other[3], lambda n: n < number),
              most + most_of_first(other, lambda n: n >= number) - 1) for number, least, most in one[3]]
    second = [(number,
               least + least_of_last(one[3], lambda n: n <= number),
               most + most_of_first(one, lambda n: n > number) - 1) for number, least, most in other[3]]
    entries = sorted(first + second, key=lambda entry: entry[0])
    return (one[0] + other[0], one[1] + other[1], max(one[2], other[2]), entries)


def thinned_by_the_words(pouch, keep):
    """Point 10 written once more, with all that a kept one reaches as a list."""
    size, slack, depth, entries = pouch
    step = size // keep
    kept = [0] if entries else []
    while kept and kept[-1] < len(entries) - 1:
        number, least, _ = entries[kept[-1]]
        behind = range(kept[-1] + 1, len(entries))
        kept.append(max(at for at in behind
                        if entries[at][0] == number or entries[at][2] <= least + slack + step + 1))
    return (size, slack + step, depth + 1, [entries[at] for at in kept])


class PouchTest(unittest.TestCase):
    def assert_kinds(self, pouch):
        self.assertIs(type(pouch), tuple)
        self.assertEqual(len(pouch), 4)
        self.assertIs(type(pouch[3]), list)
        for number in pouch[:3]:
            self.assertIs(type(number), int)
        for entry in pouch[3]:
            self.assertIs(type(entry), tuple)
            self.assertEqual([type(number) for number in entry], [int, int, int])

    def assert_good(self, pouch):
        self.assert_kinds(pouch)
        self.assertIs(look_pouch(pouch), True)


class Empty(PouchTest):
    def test_empty(self):
        self.assertEqual(stays(empty), (0, 0, 0, []))
        self.assert_good(empty())
        self.assertIs(judge([], empty()), True)

    def test_each_is_a_new_one(self):
        told = empty()
        other = empty()
        told[3].append((1, 1, 1))
        self.assertEqual(other, (0, 0, 0, []))
        self.assertEqual(empty(), (0, 0, 0, []))


class OfRun(PouchTest):
    def test_once(self):
        for number in (0, 7, -7, HUGE, -HUGE):
            self.assertEqual(stays(of_run, number, 1), (1, 0, 0, [(number, 1, 1)]))
            self.assert_good(of_run(number, 1))

    def test_more_often(self):
        for number in (0, 7, -7, HUGE, -HUGE):
            for times in (2, 3, 12, LONGEST - 1, LONGEST):
                told = stays(of_run, number, times)
                self.assertEqual(told, (times, 0, 0, [(number, 1, 1), (number, times, times)]))
                self.assert_good(told)
                self.assertIs(judge([(number, times)], told), True)

    def test_somewhat_beyond_the_bound_nothing_is_refused(self):
        times = LONGEST + 1
        self.assertEqual(of_run(7, times), (times, 0, 0, [(7, 1, 1), (7, times, times)]))

    def test_each_is_a_new_one(self):
        told = of_run(7, 3)
        other = of_run(7, 3)
        told[3].clear()
        self.assertEqual(other, (3, 0, 0, [(7, 1, 1), (7, 3, 3)]))
        self.assertEqual(of_run(7, 3), other)


class OfRow(PouchTest):
    def test_the_empty_row(self):
        self.assertEqual(stays(of_row, []), empty())

    def test_one_run(self):
        for number in (0, 7, -HUGE, HUGE):
            for times in (1, 2, 3, LONGEST):
                self.assertEqual(stays(of_row, [(number, times)]), of_run(number, times))

    def test_some_runs(self):
        told = stays(of_row, [(5, 2), (-3, 1), (5, 3), (0, 1), (-3, 2), (9, 2)])
        self.assertEqual(told, (11, 0, 0, [(-3, 1, 1), (-3, 3, 3), (0, 4, 4), (5, 5, 5), (5, 9, 9), (9, 10, 10),
                                           (9, 11, 11)]))
        self.assert_good(told)

    def test_all_small_rows(self):
        runs = [(number, times) for number in (-1, 0, 2) for times in (1, 2, 3)]
        for many in range(4):
            for row in itertools.product(runs, repeat=many):
                told = of_row(list(row))
                self.assert_good(told)
                self.assertIs(judge(list(row), told), True)
                self.assertEqual(told[1:3], (0, 0))


class Merged(PouchTest):
    def test_the_example(self):
        one = (2, 0, 0, [(3, 1, 1), (5, 2, 2)])
        other = (1, 0, 0, [(4, 1, 1)])
        both = (3, 0, 0, [(3, 1, 1), (4, 2, 2), (5, 3, 3)])
        self.assertEqual(stays(merged, one, other), both)
        self.assertEqual(stays(merged, other, one), both)

    def test_with_slack_and_equal_numbers(self):
        entries = [(1, 1, 1), (3, 2, 3), (3, 3, 4), (4, 4, 5), (4, 5, 6), (5, 7, 7)]
        self.assertEqual(stays(merged, ONE, OTHER), (7, 1, 2, entries))
        self.assertEqual(stays(merged, OTHER, ONE), (7, 1, 2, entries))

    def test_both_slacks_widen_an_entry(self):
        one = (9, 4, 0, [(1, 1, 1), (5, 3, 6), (9, 8, 8), (9, 9, 9)])
        other = (8, 5, 0, [(2, 1, 1), (4, 2, 5), (6, 7, 7), (7, 8, 8)])
        told = stays(merged, one, other)
        self.assertEqual(told, (17, 9, 0, [(1, 1, 1), (2, 2, 6), (4, 3, 10), (5, 5, 12), (6, 10, 14), (7, 11, 15),
                                           (9, 16, 16), (9, 17, 17)]))
        self.assert_good(told)

    def test_equal_numbers_stand_first_from_the_first_one(self):
        three = of_run(5, 3)
        single = of_run(5, 1)
        self.assertEqual(stays(merged, three, single), (4, 0, 0, [(5, 1, 1), (5, 3, 3), (5, 4, 4)]))
        self.assertEqual(stays(merged, single, three), (4, 0, 0, [(5, 1, 1), (5, 2, 2), (5, 4, 4)]))

    def test_with_the_very_same_one(self):
        pouch = exact([3, 5])
        self.assertEqual(stays(merged, pouch, pouch), (4, 0, 0, [(3, 1, 1), (3, 2, 2), (5, 3, 3), (5, 4, 4)]))

    def test_with_the_empty_one(self):
        self.assertEqual(stays(merged, empty(), empty()), (0, 0, 0, []))
        for pouch in (of_run(7, 1), of_run(7, LONGEST), ONE, OTHER):
            self.assertEqual(stays(merged, pouch, empty()), pouch)
            self.assertEqual(stays(merged, empty(), pouch), pouch)

    def test_with_an_empty_one_that_has_slack_and_depth(self):
        self.assertEqual(stays(merged, ONE, (0, 3, 5, [])), (4, 4, 5, ONE[3]))
        self.assertEqual(stays(merged, (0, 3, 5, []), ONE), (4, 4, 5, ONE[3]))
        self.assertEqual(stays(merged, (0, 3, 5, []), (0, 4, 2, [])), (0, 7, 5, []))

    def test_single_entries(self):
        self.assertEqual(merged(of_run(2, 1), of_run(1, 1)), exact([1, 2]))
        self.assertEqual(merged(of_run(1, 1), of_run(2, 1)), exact([1, 2]))
        self.assertEqual(merged(of_run(2, 1), of_run(2, 1)), exact([2, 2]))

    def test_the_greater_depth(self):
        for one, other, depth in ((0, 0, 0), (1, 4, 4), (4, 1, 4), (HUGE, 3, HUGE)):
            told = merged((1, 0, one, [(1, 1, 1)]), (1, 0, other, [(2, 1, 1)]))
            self.assertEqual(told[2], depth)

    def test_numbers_of_sixty_figures(self):
        one = exact([-HUGE, HUGE - 1])
        other = exact([1 - HUGE, HUGE])
        both = exact([-HUGE, 1 - HUGE, HUGE - 1, HUGE])
        self.assertEqual(stays(merged, one, other), both)
        self.assertEqual(stays(merged, other, one), both)

    def test_sizes_without_a_bound(self):
        pouch = of_run(7, LONGEST)
        for times in range(1, 40):
            pouch = merged(pouch, pouch)
            self.assertEqual(pouch[0], LONGEST * 2 ** times)
            self.assert_good(pouch)
            pouch = thinned(pouch, 1)
        huge = (HUGE, 0, 0, [(7, 1, 1), (7, HUGE, HUGE)])
        low = (HUGE, 0, 0, [(-7, 1, 1), (-7, HUGE, HUGE)])
        told = (2 * HUGE, 0, 0, [(-7, 1, 1), (-7, HUGE, HUGE), (7, HUGE + 1, HUGE + 1), (7, 2 * HUGE, 2 * HUGE)])
        self.assertEqual(stays(merged, huge, low), told)
        self.assertEqual(stays(merged, low, huge), told)

    def test_two_thousand_entries_and_more(self):
        even = exact(range(0, 4000, 2))
        odd = exact(range(1, 4000, 2))
        self.assertEqual(merged(even, odd), exact(range(4000)))
        self.assertEqual(merged(merged(even, odd), even), exact(list(range(4000)) + list(range(0, 4000, 2))))

    def test_all_small_ones_by_the_words(self):
        ones = [pouch for size in range(5) for pouch in good_pouches(size, (0, 1, 3))]
        others = [pouch for size in range(4) for pouch in good_pouches(size, (0, 1, 2))]
        for one in ones:
            for other in others:
                for pair in ((one, other), (other, one)):
                    told = merged(*pair)
                    self.assertEqual(told, merged_by_the_words(*pair), pair)
                    self.assertIs(look_pouch(told), True)

    def test_what_is_told_is_new(self):
        for one, other in ((ONE, OTHER), (ONE, empty()), (empty(), OTHER), (empty(), empty())):
            one = copy.deepcopy(one)
            other = copy.deepcopy(other)
            told = merged(one, other)
            kept = copy.deepcopy(told)
            one[3].append((99, 1, 1))
            other[3].clear()
            self.assertEqual(told, kept)

    def test_what_is_told_may_be_changed(self):
        for one, other in ((ONE, OTHER), (ONE, empty()), (empty(), OTHER), (empty(), empty())):
            before = copy.deepcopy((one, other))
            merged(one, other)[3].append((99, 1, 1))
            self.assertEqual((one, other), before)


class Thinned(PouchTest):
    def assert_thinned(self, pouch, keep, told):
        self.assertEqual(stays(thinned, pouch, keep), told)
        self.assert_good(told)

    def test_keep_1(self):
        self.assert_thinned(exact(range(1, 11)), 1, (10, 10, 1, [(1, 1, 1), (10, 10, 10)]))

    def test_some_keeps(self):
        ten = exact(range(1, 11))
        self.assert_thinned(ten, 2, (10, 5, 1, [(1, 1, 1), (7, 7, 7), (10, 10, 10)]))
        self.assert_thinned(ten, 3, (10, 3, 1, [(1, 1, 1), (5, 5, 5), (9, 9, 9), (10, 10, 10)]))
        self.assert_thinned(ten, 5, (10, 2, 1, [(1, 1, 1), (4, 4, 4), (7, 7, 7), (10, 10, 10)]))

    def test_keep_equal_to_the_size(self):
        places = (1, 3, 5, 7, 9, 10)
        self.assert_thinned(exact(range(1, 11)), 10, (10, 1, 1, [(place, place, place) for place in places]))

    def test_keep_just_below_the_size(self):
        places = (1, 3, 5, 7, 9, 10)
        self.assert_thinned(exact(range(1, 11)), 9, (10, 1, 1, [(place, place, place) for place in places]))

    def test_keep_above_the_size(self):
        ten = exact(range(1, 11))
        for keep in (11, 1000, 1001, LONGEST, HUGE):
            self.assert_thinned(ten, keep, (10, 0, 1, ten[3]))

    def test_equal_numbers_go_though_keep_is_above_the_size(self):
        self.assert_thinned(exact([4, 5, 5, 5, 6]), 6, (5, 0, 1, [(4, 1, 1), (5, 2, 2), (5, 4, 4), (6, 5, 5)]))

    def test_the_same_number_reaches_far(self):
        entries = [(1, 1, 1), (4, 2, 2), (4, 50, 50), (4, 90, 90), (9, 91, 91), (9, 100, 100)]
        self.assert_thinned((100, 0, 0, entries), 50,
                            (100, 2, 1, [(1, 1, 1), (4, 2, 2), (4, 90, 90), (9, 91, 91), (9, 100, 100)]))
        self.assert_thinned((100, 0, 0, entries), 2,
                            (100, 50, 1, [(1, 1, 1), (4, 50, 50), (9, 100, 100)]))

    def test_reach_goes_from_least_to_most_by_the_new_slack(self):
        entries = [(1, 1, 1), (2, 2, 4), (3, 4, 6), (4, 6, 7), (5, 8, 8)]
        self.assert_thinned((8, 4, 0, entries), 8, (8, 5, 1, [(1, 1, 1), (4, 6, 7), (5, 8, 8)]))
        self.assert_thinned((8, 4, 0, entries), 9, (8, 4, 1, [(1, 1, 1), (3, 4, 6), (5, 8, 8)]))

    def test_one_that_is_thinned_already(self):
        once = (10, 5, 1, [(1, 1, 1), (7, 7, 7), (10, 10, 10)])
        self.assert_thinned(once, 5, (10, 7, 2, once[3]))
        self.assert_thinned(once, 3, (10, 8, 2, [(1, 1, 1), (10, 10, 10)]))
        self.assert_thinned((10, 8, 2, [(1, 1, 1), (10, 10, 10)]), 3, (10, 11, 3, [(1, 1, 1), (10, 10, 10)]))

    def test_the_empty_one(self):
        for keep in (1, 2, 1000, HUGE):
            self.assert_thinned(empty(), keep, (0, 0, 1, []))
            self.assert_thinned((0, 5, 3, []), keep, (0, 5, 4, []))

    def test_one_entry(self):
        self.assert_thinned(of_run(-HUGE, 1), 1, (1, 1, 1, [(-HUGE, 1, 1)]))
        self.assert_thinned(of_run(HUGE, 1), 2, (1, 0, 1, [(HUGE, 1, 1)]))

    def test_a_long_run(self):
        ends = [(7, 1, 1), (7, LONGEST, LONGEST)]
        self.assert_thinned(of_run(7, LONGEST), 1, (LONGEST, LONGEST, 1, ends))
        self.assert_thinned(of_run(7, LONGEST), 1000, (LONGEST, 1000000, 1, ends))
        self.assert_thinned(of_run(7, LONGEST), LONGEST + 1, (LONGEST, 0, 1, ends))

    def test_numbers_of_sixty_figures_one_apart(self):
        pouch = exact([-HUGE, 1 - HUGE, HUGE - 1, HUGE])
        self.assert_thinned(pouch, 4, (4, 1, 1, [(-HUGE, 1, 1), (HUGE - 1, 3, 3), (HUGE, 4, 4)]))

    def test_at_most_twice_keep_are_left(self):
        for size in (1, 2, 7, 100, 999, 2000):
            pouch = exact(range(size))
            for keep in (1, 2, 3, 10, 33, 500, 1000, 2000):
                told = thinned(pouch, keep)
                self.assertLessEqual(len(told[3]), 2 * keep)
                self.assert_good(told)
                self.assertIs(judge([(number, 1) for number in range(size)], told), True)

    def test_all_small_ones_by_the_words(self):
        for size in range(7):
            for pouch in good_pouches(size, (0, 1, 3, 4)):
                for keep in range(1, size + 2):
                    told = thinned(pouch, keep)
                    self.assertEqual(told, thinned_by_the_words(pouch, keep), (pouch, keep))
                    self.assertIs(look_pouch(told), True)
                    self.assertLessEqual(len(told[3]), 2 * keep)

    def test_what_is_told_is_new(self):
        for pouch in (empty(), of_run(7, 1), of_run(7, 3), exact(range(5))):
            for keep in (1, 3, HUGE):
                given = copy.deepcopy(pouch)
                told = thinned(given, keep)
                kept = copy.deepcopy(told)
                given[3].append((99, 1, 1))
                self.assertEqual(told, kept)

    def test_what_is_told_may_be_changed(self):
        for pouch in (empty(), of_run(7, 1), of_run(7, 3), exact(range(5))):
            for keep in (1, 3, HUGE):
                before = copy.deepcopy(pouch)
                thinned(pouch, keep)[3].append((99, 1, 1))
                self.assertEqual(pouch, before)


if __name__ == "__main__":
    unittest.main()

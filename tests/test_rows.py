import copy
import itertools
import unittest

from rankpouch.errors import NoPlace, NoRow, RankError
from rankpouch.rows import count_below, count_upto, look_row, number_at, packed, places_of

LONGEST = 1000000000
HUGE = 10 ** 60 - 1
MIXED = [(5, 2), (-3, 1), (5, 3), (0, 4), (-3, 2), (9, 1)]


def small_rows():
    runs = [(number, times) for number in (-1, 0, 2) for times in (1, 2, 3)]
    for many in range(4):
        for row in itertools.product(runs, repeat=many):
            yield list(row)


def laid_out(row):
    return sorted(number for number, times in row for _ in range(times))


class LookRow(unittest.TestCase):
    def refused_at(self, row):
        before = copy.deepcopy(row)
        with self.assertRaises(NoRow) as caught:
            look_row(row)
        self.assertEqual(row, before)
        return caught.exception.at

    def test_no_run(self):
        self.assertEqual(look_row([]), 0)

    def test_one_run(self):
        self.assertEqual(look_row([(7, 1)]), 1)
        self.assertEqual(look_row([(-7, 12)]), 12)

    def test_many_runs(self):
        self.assertEqual(look_row(MIXED), 13)
        self.assertEqual(look_row([(number % 7, 3) for number in range(2000)]), 6000)

    def test_numbers_of_sixty_figures(self):
        self.assertEqual(look_row([(HUGE, 2), (-HUGE, 3)]), 5)

    def test_times_below_one(self):
        for times in (0, -1, -LONGEST, -HUGE):
            self.assertEqual(self.refused_at([(1, times)]), 0)
            self.assertEqual(self.refused_at([(1, 1), (2, 1), (1, times), (3, 1)]), 2)
            self.assertEqual(self.refused_at([(1, 1), (2, 5), (1, times)]), 2)

    def test_just_the_longest(self):
        self.assertEqual(look_row([(4, LONGEST)]), LONGEST)
        self.assertEqual(look_row([(4, LONGEST - 1), (4, 1)]), LONGEST)
        self.assertEqual(look_row([(4, 1), (3, LONGEST - 3), (9, 2)]), LONGEST)

    def test_one_too_long(self):
        self.assertEqual(self.refused_at([(4, LONGEST + 1)]), 0)
        self.assertEqual(self.refused_at([(4, LONGEST), (4, 1)]), 1)
        self.assertEqual(self.refused_at([(4, 1), (3, LONGEST - 3), (9, 2), (8, 1), (7, 1)]), 3)

    def test_far_too_long(self):
        self.assertEqual(self.refused_at([(4, 1), (4, HUGE)]), 1)

    def test_at_is_the_first_of_several(self):
        self.assertEqual(self.refused_at([(1, 0), (1, 0), (1, LONGEST + 1)]), 0)
        self.assertEqual(self.refused_at([(1, 1), (1, LONGEST), (1, 0)]), 1)
        self.assertEqual(self.refused_at([(1, 1), (1, 0), (1, LONGEST + 1)]), 1)

    def test_a_run_below_one_does_not_make_room(self):
        self.assertEqual(self.refused_at([(1, LONGEST), (1, -5), (1, 5)]), 1)

    def test_the_refusal_is_a_rank_error(self):
        with self.assertRaises(RankError):
            look_row([(1, 0)])
        with self.assertRaises(ValueError):
            look_row([(1, 0)])

    def test_the_row_stays(self):
        row = list(MIXED)
        look_row(row)
        self.assertEqual(row, MIXED)


class Counts(unittest.TestCase):
    def test_numbers_of_the_row(self):
        self.assertEqual([count_upto(MIXED, number) for number in (-3, 0, 5, 9)], [3, 7, 12, 13])
        self.assertEqual([count_below(MIXED, number) for number in (-3, 0, 5, 9)], [0, 3, 7, 12])

    def test_numbers_beside_them(self):
        for number, count in ((-4, 0), (-2, 3), (-1, 3), (1, 7), (4, 7), (6, 12), (8, 12), (10, 13)):
            self.assertEqual(count_upto(MIXED, number), count)
            self.assertEqual(count_below(MIXED, number), count)

    def test_numbers_far_from_them(self):
        for far, count in ((-HUGE, 0), (HUGE, 13)):
            self.assertEqual(count_upto(MIXED, far), count)
            self.assertEqual(count_below(MIXED, far), count)

    def test_numbers_of_sixty_figures_one_apart(self):
        row = [(HUGE, 2), (HUGE - 1, 3), (-HUGE, 5), (1 - HUGE, 7)]
        numbers = (-HUGE, 1 - HUGE, HUGE - 1, HUGE)
        self.assertEqual([count_upto(row, number) for number in numbers], [5, 12, 15, 17])
        self.assertEqual([count_below(row, number) for number in numbers], [0, 5, 12, 15])

    def test_the_empty_row(self):
        for number in (-1, 0, 1, HUGE):
            self.assertEqual(count_upto([], number), 0)
            self.assertEqual(count_below([], number), 0)

    def test_long_runs(self):
        row = [(2, LONGEST - 1), (1, 1)]
        self.assertEqual(count_upto(row, 2), LONGEST)
        self.assertEqual(count_below(row, 2), 1)

    def test_all_small_rows(self):
        for row in small_rows():
            numbers = laid_out(row)
            for asked in range(-2, 4):
                self.assertEqual(count_upto(row, asked), len([n for n in numbers if n <= asked]))
                self.assertEqual(count_below(row, asked), len([n for n in numbers if n < asked]))

    def test_the_row_stays(self):
        row = list(MIXED)
        count_upto(row, 5)
        count_below(row, 5)
        self.assertEqual(row, MIXED)


class NumberAt(unittest.TestCase):
    def test_first_and_last_place(self):
        self.assertEqual(number_at(MIXED, 1), -3)
        self.assertEqual(number_at(MIXED, 13), 9)

    def test_where_numbers_begin_and_end(self):
        places = (3, 4, 7, 8, 12, 13)
        self.assertEqual([number_at(MIXED, place) for place in places], [-3, 0, 0, 5, 5, 9])

    def test_places_that_are_none(self):
        for row in (MIXED, [(4, 1)], [(4, LONGEST)], []):
            length = sum(times for number, times in row)
            for place in (0, -1, -length, -HUGE, length + 1, length + 1000, HUGE, 10 ** 5000, -10 ** 5000):
                if 1 <= place <= length:
                    continue
                with self.subTest(length=length), self.assertRaises(NoPlace):
                    number_at(row, place)

    def test_the_refusal_is_a_rank_error(self):
        with self.assertRaises(RankError):
            number_at([(1, 1)], 2)
        with self.assertRaises(ValueError):
            number_at([(1, 1)], 0)

    def test_long_runs(self):
        row = [(2, LONGEST - 1), (1, 1)]
        self.assertEqual([number_at(row, place) for place in (1, 2, LONGEST)], [1, 2, 2])

    def test_numbers_of_sixty_figures(self):
        row = [(HUGE, 1), (HUGE - 1, 1), (-HUGE, 1)]
        self.assertEqual([number_at(row, place) for place in (1, 2, 3)], [-HUGE, HUGE - 1, HUGE])

    def test_all_small_rows(self):
        for row in small_rows():
            numbers = laid_out(row)
            self.assertEqual([number_at(row, place) for place in range(1, len(numbers) + 1)], numbers)

    def test_the_row_stays(self):
        row = list(MIXED)
        number_at(row, 5)
        with self.assertRaises(NoPlace):
            number_at(row, 0)
        self.assertEqual(row, MIXED)


class Packed(unittest.TestCase):
    def test_none_one_and_many(self):
        self.assertEqual(packed([]), [])
        self.assertEqual(packed([(4, 6)]), [(4, 6)])
        self.assertEqual(packed(MIXED), [(-3, 3), (0, 4), (5, 5), (9, 1)])

    def test_numbers_of_sixty_figures(self):
        row = [(HUGE, 1), (-HUGE, 2), (HUGE - 1, 3), (HUGE, 4)]
        self.assertEqual(packed(row), [(-HUGE, 2), (HUGE - 1, 3), (HUGE, 5)])

    def test_all_small_rows(self):
        for row in small_rows():
            numbers = laid_out(row)
            told = packed(row)
            self.assertEqual(told, [(number, numbers.count(number)) for number in sorted(set(numbers))])
            self.assertEqual(look_row(told), len(numbers))

    def test_a_list_of_two_thousand_runs(self):
        row = [((number * 7) % 2000, 1) for number in range(2000)]
        self.assertEqual(packed(row), [(number, 1) for number in range(2000)])

    def test_the_row_stays(self):
        row = list(MIXED)
        packed(row)
        self.assertEqual(row, MIXED)

    def test_the_list_told_is_a_new_one(self):
        for row in ([], [(4, 6)], [(1, 2), (3, 4)], list(MIXED)):
            before = list(row)
            told = packed(row)
            kept = list(told)
            told.append((99, 1))
            self.assertEqual(row, before)
            self.assertEqual(packed(row), kept)


class PlacesOf(unittest.TestCase):
    def test_the_empty_row(self):
        self.assertEqual(places_of([]), {})

    def test_numbers_come_rising_with_their_first_and_last_place(self):
        row = [(5, 2), (-3, 1), (5, 3), (0, 1)]
        self.assertEqual(list(places_of(row).items()), [(-3, (1, 1)), (0, (2, 2)), (5, (3, 7))])
        self.assertEqual(row, [(5, 2), (-3, 1), (5, 3), (0, 1)])


if __name__ == "__main__":
    unittest.main()

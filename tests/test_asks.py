import unittest

from helpers import HUGE, LONGEST, exact, good_pouches, stays
from rankpouch.asks import below, between, so_manieth, upto
from rankpouch.errors import NoPlace, RankError
from rankpouch.gaps import empty, of_run

MIXED = (10, 3, 1, [(1, 1, 1), (4, 3, 5), (6, 5, 7), (9, 7, 8), (9, 10, 10)])


def by_the_words(pouch, before, behind):
    """Point 11 written once more: low of the last entry before, high of the first one behind."""
    leasts = [least for number, least, most in pouch[3] if before(number)]
    mosts = [most for number, least, most in pouch[3] if behind(number)]
    return (leasts[-1] if leasts else 0, mosts[0] - 1 if mosts else pouch[0])


def upto_by_the_words(pouch, number):
    return by_the_words(pouch, lambda n: n <= number, lambda n: n > number)


def below_by_the_words(pouch, number):
    return by_the_words(pouch, lambda n: n < number, lambda n: n >= number)


def between_by_the_words(pouch, one, other):
    if other < one:
        return (0, 0)
    low_below, high_below = below_by_the_words(pouch, one)
    low_upto, high_upto = upto_by_the_words(pouch, other)
    return (max(0, low_upto - high_below), high_upto - low_below)


def so_manieth_by_the_words(pouch, place):
    size, slack, _, entries = pouch
    half = (slack + 1) // 2
    above = [at for at, entry in enumerate(entries) if entry[2] > place + half]
    return entries[above[0] - 1][0] if above else entries[-1][0]


class Upto(unittest.TestCase):
    def test_numbers_that_are_kept(self):
        told = [stays(upto, MIXED, number) for number in (1, 4, 6, 9)]
        self.assertEqual(told, [(1, 4), (3, 6), (5, 7), (10, 10)])

    def test_numbers_beside_them(self):
        told = [stays(upto, MIXED, number) for number in (0, 2, 3, 5, 7, 8, 10)]
        self.assertEqual(told, [(0, 0), (1, 4), (1, 4), (3, 6), (5, 7), (5, 7), (10, 10)])

    def test_the_empty_one(self):
        for number in (0, 1, -1, HUGE, -HUGE):
            self.assertEqual(stays(upto, empty(), number), (0, 0))

    def test_one_entry(self):
        told = [stays(upto, of_run(7, 1), number) for number in (-HUGE, 6, 7, 8, HUGE)]
        self.assertEqual(told, [(0, 0), (0, 0), (1, 1), (1, 1), (1, 1)])

    def test_a_long_run(self):
        told = [upto(of_run(7, LONGEST), number) for number in (6, 7, 8)]
        self.assertEqual(told, [(0, 0), (LONGEST, LONGEST), (LONGEST, LONGEST)])

    def test_numbers_of_sixty_figures(self):
        pouch = exact([-HUGE, 1 - HUGE, HUGE - 1, HUGE])
        told = [upto(pouch, number) for number in (-HUGE, 1 - HUGE, 0, HUGE - 1, HUGE)]
        self.assertEqual(told, [(1, 1), (2, 2), (2, 2), (3, 3), (4, 4)])

    def test_it_is_a_tuple(self):
        self.assertIs(type(upto(MIXED, 4)), tuple)
        self.assertIs(type(upto(empty(), 4)), tuple)


class Below(unittest.TestCase):
    def test_numbers_that_are_kept(self):
        told = [stays(below, MIXED, number) for number in (1, 4, 6, 9)]
        self.assertEqual(told, [(0, 0), (1, 4), (3, 6), (5, 7)])

    def test_numbers_beside_them(self):
        told = [stays(below, MIXED, number) for number in (0, 2, 3, 5, 7, 8, 10)]
        self.assertEqual(told, [(0, 0), (1, 4), (1, 4), (3, 6), (5, 7), (5, 7), (10, 10)])

    def test_the_empty_one(self):
        for number in (0, 1, -1, HUGE, -HUGE):
            self.assertEqual(stays(below, empty(), number), (0, 0))

    def test_one_entry(self):
        told = [stays(below, of_run(7, 1), number) for number in (-HUGE, 6, 7, 8, HUGE)]
        self.assertEqual(told, [(0, 0), (0, 0), (0, 0), (1, 1), (1, 1)])

    def test_a_long_run(self):
        told = [below(of_run(7, LONGEST), number) for number in (6, 7, 8)]
        self.assertEqual(told, [(0, 0), (0, 0), (LONGEST, LONGEST)])

    def test_numbers_of_sixty_figures(self):
        pouch = exact([-HUGE, 1 - HUGE, HUGE - 1, HUGE])
        told = [below(pouch, number) for number in (-HUGE, 1 - HUGE, 0, HUGE - 1, HUGE)]
        self.assertEqual(told, [(0, 0), (1, 1), (2, 2), (2, 2), (3, 3)])

    def test_it_is_a_tuple(self):
        self.assertIs(type(below(MIXED, 4)), tuple)
        self.assertIs(type(below(empty(), 4)), tuple)


class Between(unittest.TestCase):
    def test_some_numbers(self):
        self.assertEqual(stays(between, MIXED, 1, 9), (10, 10))
        self.assertEqual(stays(between, MIXED, 4, 6), (1, 6))
        self.assertEqual(stays(between, MIXED, 2, 9), (6, 9))
        self.assertEqual(stays(between, MIXED, -HUGE, 5), (3, 6))

    def test_low_is_never_below_0(self):
        self.assertEqual(stays(between, MIXED, 2, 3), (0, 3))
        self.assertEqual(stays(between, MIXED, 4, 5), (0, 5))

    def test_a_number_and_itself(self):
        self.assertEqual(stays(between, MIXED, 9, 9), (3, 5))
        self.assertEqual(stays(between, MIXED, 4, 4), (0, 5))
        self.assertEqual(stays(between, MIXED, 0, 0), (0, 0))

    def test_the_other_below_the_one(self):
        for one, other in ((9, 8), (5, 4), (4, 3), (HUGE, -HUGE), (1, 0), (100, 99)):
            self.assertEqual(stays(between, MIXED, one, other), (0, 0))

    def test_none_and_one_entry(self):
        self.assertEqual(stays(between, empty(), -HUGE, HUGE), (0, 0))
        told = [between(of_run(7, 1), one, other) for one, other in ((7, 7), (6, 8), (-HUGE, 6), (8, HUGE), (8, 6))]
        self.assertEqual(told, [(1, 1), (1, 1), (0, 0), (0, 0), (0, 0)])

    def test_a_long_run(self):
        self.assertEqual(between(of_run(HUGE, LONGEST), HUGE, HUGE), (LONGEST, LONGEST))
        self.assertEqual(between(of_run(-HUGE, LONGEST), -HUGE, HUGE), (LONGEST, LONGEST))

    def test_it_is_a_tuple(self):
        self.assertIs(type(between(MIXED, 4, 6)), tuple)
        self.assertIs(type(between(MIXED, 6, 4)), tuple)


class SoManieth(unittest.TestCase):
    def assert_no_place(self, pouch, place):
        with self.assertRaises(NoPlace) as caught:
            so_manieth(pouch, place)
        self.assertIsInstance(caught.exception, RankError)

    def test_without_slack(self):
        pouch = exact([3, 4, 4, 8])
        self.assertEqual([stays(so_manieth, pouch, place) for place in (1, 2, 3, 4)], [3, 4, 4, 8])

    def test_with_slack(self):
        told = [stays(so_manieth, MIXED, place) for place in range(1, 11)]
        self.assertEqual(told, [1, 1, 4, 4, 6, 9, 9, 9, 9, 9])

    def test_half_the_slack_is_rounded_up(self):
        entries = [(1, 1, 1), (2, 2, 2), (3, 3, 3), (4, 4, 4)]
        told = [[so_manieth((4, slack, 0, entries), place) for place in (1, 2, 3, 4)] for slack in (0, 1, 2, 3, 4)]
        self.assertEqual(told, [[1, 2, 3, 4], [2, 3, 4, 4], [2, 3, 4, 4], [3, 4, 4, 4], [3, 4, 4, 4]])

    def test_one_entry(self):
        for number in (0, HUGE, -HUGE):
            self.assertEqual(stays(so_manieth, of_run(number, 1), 1), number)

    def test_a_long_run(self):
        for place in (1, 2, LONGEST - 1, LONGEST):
            self.assertEqual(stays(so_manieth, of_run(-HUGE, LONGEST), place), -HUGE)

    def test_places_that_are_none(self):
        for pouch in (MIXED, of_run(7, 1), of_run(7, LONGEST), exact(range(5))):
            size = pouch[0]
            for place in (0, -1, -size, -HUGE, -10 ** 5000, size + 1, size + 2, 2 * size + 2, HUGE, 10 ** 5000):
                self.assert_no_place(pouch, place)

    def test_the_empty_one_has_no_place(self):
        for pouch in (empty(), (0, 5, 2, [])):
            for place in (0, -1, 1, 2, HUGE):
                self.assert_no_place(pouch, place)

    def test_slack_makes_no_place(self):
        pouch = (4, 50, 3, [(1, 1, 1), (4, 4, 4)])
        self.assertEqual([so_manieth(pouch, place) for place in (1, 2, 3, 4)], [4, 4, 4, 4])
        for place in (0, -1, 5, 6):
            self.assert_no_place(pouch, place)

    def test_a_refusal_changes_nothing(self):
        pouch = (2, 0, 0, [(3, 1, 1), (5, 2, 2)])
        self.assert_no_place(pouch, 3)
        self.assertEqual(pouch, (2, 0, 0, [(3, 1, 1), (5, 2, 2)]))


class AllSmall(unittest.TestCase):
    def test_counts(self):
        for size in range(7):
            for pouch in good_pouches(size):
                for number in range(-1, 5):
                    self.assertEqual(upto(pouch, number), upto_by_the_words(pouch, number), (pouch, number))
                    self.assertEqual(below(pouch, number), below_by_the_words(pouch, number), (pouch, number))
                    for low, high in (upto(pouch, number), below(pouch, number)):
                        self.assertTrue(0 <= low <= high <= min(size, low + pouch[1]), (pouch, number))

    def test_between(self):
        for size in range(6):
            for pouch in good_pouches(size):
                for one in range(-1, 5):
                    for other in range(-1, 5):
                        told = between(pouch, one, other)
                        self.assertEqual(told, between_by_the_words(pouch, one, other), (pouch, one, other))

    def test_so_manieth(self):
        for size in range(1, 7):
            for pouch in good_pouches(size):
                for place in range(1, size + 1):
                    told = so_manieth(pouch, place)
                    self.assertEqual(told, so_manieth_by_the_words(pouch, place), (pouch, place))

    def test_long_lists(self):
        for size in (1999, 2000, 2001, 5000):
            pouch = exact([number // 3 for number in range(size)])
            for number in range(-1, size // 3 + 2, 7):
                self.assertEqual(upto(pouch, number), upto_by_the_words(pouch, number))
                self.assertEqual(below(pouch, number), below_by_the_words(pouch, number))
            for place in list(range(1, size, 7)) + [size]:
                self.assertEqual(so_manieth(pouch, place), (place - 1) // 3)


if __name__ == "__main__":
    unittest.main()

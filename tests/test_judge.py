import copy
import itertools
import unittest

from helpers import HUGE, LONGEST, exact, good_pouches, laid_out
from rankpouch.errors import NoPouch, NoRow, NoSize, RankError, Wrong
from rankpouch.gaps import empty, merged, of_run, thinned
from rankpouch.judge import judge

MIXED = [(5, 2), (-3, 1), (5, 3), (0, 4), (-3, 2), (9, 1)]


def has_places(numbers, entries):
    """Point 6 written once more, by trying all places there are; numbers are the sorted row."""
    for places in itertools.combinations(range(1, len(numbers) + 1), len(entries)):
        if all(numbers[place - 1] == number and least <= place <= most
               for place, (number, least, most) in zip(places, entries)):
            return True
    return False


def first_wrong(numbers, entries):
    for at in range(len(entries)):
        if not has_places(numbers, entries[:at + 1]):
            return at
    return None


class JudgeTest(unittest.TestCase):
    def assert_let_by(self, row, pouch):
        before = copy.deepcopy((row, pouch))
        self.assertIs(judge(row, pouch), True)
        self.assertIs(judge(row, pouch), True)
        self.assertEqual((row, pouch), before)

    def assert_refused(self, row, pouch, kind, at=None):
        before = copy.deepcopy((row, pouch))
        for _ in range(2):
            with self.assertRaises(RankError) as caught:
                judge(row, pouch)
            self.assertIs(type(caught.exception), kind)
            if at is not None:
                self.assertEqual(caught.exception.at, at)
        self.assertEqual((row, pouch), before)


class LetBy(JudgeTest):
    def test_the_empty_row(self):
        self.assert_let_by([], empty())
        self.assert_let_by([], (0, 7, 3, []))

    def test_one_entry(self):
        for number in (0, HUGE, -HUGE):
            self.assert_let_by([(number, 1)], of_run(number, 1))

    def test_a_long_run(self):
        self.assert_let_by([(7, LONGEST)], of_run(7, LONGEST))
        self.assert_let_by([(7, 1), (7, LONGEST - 2), (7, 1)], of_run(7, LONGEST))

    def test_runs_in_any_order(self):
        pouch = exact(laid_out(MIXED))
        for row in itertools.permutations(MIXED):
            self.assertIs(judge(list(row), pouch), True)

    def test_numbers_of_sixty_figures(self):
        row = [(HUGE, 1), (-HUGE, 1), (HUGE - 1, 1), (1 - HUGE, 1)]
        self.assert_let_by(row, exact([-HUGE, 1 - HUGE, HUGE - 1, HUGE]))

    def test_places_within_the_bounds(self):
        entries = [(1, 1, 1), (4, 2, 4), (6, 3, 5), (9, 6, 6)]
        for inner in ([4, 5, 5, 6], [4, 6, 6, 6], [2, 4, 6, 6], [2, 3, 4, 6], [4, 4, 4, 6]):
            row = [(number, 1) for number in [1] + inner + [9]]
            self.assert_let_by(row, (6, 9, 0, entries))

    def test_the_earliest_place_leaves_room(self):
        row = [(1, 1), (5, 3), (9, 2)]
        self.assert_let_by(row, (6, 5, 0, [(1, 1, 1), (5, 2, 3), (5, 3, 4), (5, 4, 5), (9, 6, 6)]))

    def test_two_thousand_entries_and_more(self):
        numbers = [number // 3 for number in range(6000)]
        row = [(number, 3) for number in reversed(range(2000))]
        self.assert_let_by(row, exact(numbers))

    def test_what_was_merged_and_thinned(self):
        pouch = empty()
        for at, (number, times) in enumerate(MIXED):
            pouch = merged(pouch, of_run(number, times))
            self.assert_let_by(MIXED[:at + 1], pouch)
        for keep in (1, 2, 13, HUGE):
            self.assert_let_by(MIXED, thinned(pouch, keep))


class Refused(JudgeTest):
    def test_no_row(self):
        self.assert_refused([(1, 0)], empty(), NoRow, 0)
        self.assert_refused([(1, 1), (2, 1), (3, -1)], exact([1, 2]), NoRow, 2)
        self.assert_refused([(1, LONGEST), (2, 1)], of_run(1, LONGEST), NoRow, 1)

    def test_no_pouch(self):
        row = [(3, 1), (4, 1), (5, 1)]
        self.assert_refused(row, (-3, 0, 0, []), NoPouch, 0)
        self.assert_refused(row, (3, -1, 0, [(3, 1, 1), (4, 2, 2), (5, 3, 3)]), NoPouch, 0)
        self.assert_refused(row, (3, 0, -1, [(3, 1, 1), (4, 2, 2), (5, 3, 3)]), NoPouch, 0)
        self.assert_refused(row, (3, 0, 0, []), NoPouch, 0)
        self.assert_refused(row, (3, 0, 0, [(3, 1, 1), (5, 2, 2), (4, 3, 3)]), NoPouch, 2)
        self.assert_refused(row, (3, 0, 0, [(3, 1, 1), (5, 3, 3)]), NoPouch, 1)
        self.assert_refused([], (0, 0, 0, [(3, 1, 1)]), NoPouch, 0)

    def test_no_size(self):
        self.assert_refused([], of_run(3, 1), NoSize)
        self.assert_refused([(3, 1)], empty(), NoSize)
        self.assert_refused([(3, 1), (4, 1)], exact([3, 4, 4]), NoSize)
        self.assert_refused([(3, 1), (4, 3)], exact([3, 4, 4]), NoSize)
        self.assert_refused([(3, LONGEST)], of_run(3, LONGEST - 1), NoSize)
        self.assert_refused([(3, LONGEST)], of_run(3, LONGEST + 1), NoSize)
        self.assert_refused([(3, LONGEST)], (HUGE, 0, 0, [(3, 1, 1), (3, HUGE, HUGE)]), NoSize)

    def test_wrong_where_the_row_does_not_have_the_number(self):
        row = [(3, 1), (4, 1), (6, 1)]
        for numbers, at in (([2, 4, 6], 0), ([3, 5, 6], 1), ([3, 4, 5], 2), ([3, 4, 7], 2), ([HUGE] * 3, 0)):
            self.assert_refused(row, exact(numbers), Wrong, at)

    def test_wrong_by_one_among_sixty_figures(self):
        self.assert_refused([(HUGE, 1)], of_run(HUGE - 1, 1), Wrong, 0)
        self.assert_refused([(-HUGE, 1)], of_run(HUGE, 1), Wrong, 0)

    def test_wrong_where_it_stands_before_least(self):
        pouch = (5, 9, 0, [(1, 1, 1), (4, 3, 4), (9, 5, 5)])
        self.assert_let_by([(1, 1), (4, 2), (9, 2)], pouch)
        self.assert_refused([(1, 1), (4, 1), (9, 3)], pouch, Wrong, 1)

    def test_wrong_where_it_stands_behind_most(self):
        pouch = (5, 9, 0, [(1, 1, 1), (4, 2, 3), (9, 5, 5)])
        self.assert_let_by([(1, 2), (4, 1), (9, 2)], pouch)
        self.assert_refused([(1, 3), (4, 1), (9, 1)], pouch, Wrong, 1)

    def test_wrong_where_two_have_one_place_between_them(self):
        pouch = (6, 9, 0, [(1, 1, 1), (5, 2, 4), (5, 3, 5), (9, 6, 6)])
        self.assert_let_by([(1, 3), (5, 2), (9, 1)], pouch)
        self.assert_let_by([(1, 1), (5, 2), (9, 3)], pouch)
        self.assert_refused([(1, 3), (5, 1), (9, 2)], pouch, Wrong, 2)

    def test_wrong_at_the_ends(self):
        self.assert_refused([(1, 1), (4, 2), (9, 2)], (5, 9, 0, [(4, 1, 1), (9, 5, 5)]), Wrong, 0)
        self.assert_refused([(1, 1), (4, 2), (9, 2)], (5, 9, 0, [(1, 1, 1), (4, 5, 5)]), Wrong, 1)
        self.assert_refused([(1, LONGEST - 1), (2, 1)], of_run(1, LONGEST), Wrong, 1)
        self.assert_refused([(2, LONGEST - 1), (1, 1)], of_run(2, LONGEST), Wrong, 0)

    def test_wrong_at_the_first_of_several(self):
        row = [(number, 1) for number in range(10)]
        self.assert_refused(row, exact([0, 1, 2, 3, 5, 5, 6, 8, 8, 9]), Wrong, 4)

    def test_wrong_at_the_end_of_two_thousand(self):
        row = [(number, 1) for number in range(2000)]
        self.assert_refused(row, exact(list(range(1999)) + [2000]), Wrong, 1999)


class Order(JudgeTest):
    def test_no_row_goes_ahead_of_all(self):
        bad_row = [(3, 1), (4, 0)]
        self.assert_refused(bad_row, (-1, 0, 0, []), NoRow, 1)
        self.assert_refused(bad_row, (2, 0, 0, [(4, 1, 1), (3, 2, 2)]), NoRow, 1)
        self.assert_refused(bad_row, exact([3, 4, 5]), NoRow, 1)
        self.assert_refused(bad_row, exact([7]), NoRow, 1)
        self.assert_refused([(3, LONGEST), (3, 1)], (1, 0, 0, [(3, 2, 2)]), NoRow, 1)

    def test_no_pouch_goes_ahead_of_size_and_places(self):
        self.assert_refused([(3, 1)], (2, 0, 0, [(4, 1, 1), (3, 2, 2)]), NoPouch, 1)
        self.assert_refused([(3, 1), (4, 1)], (2, 0, 0, [(7, 1, 1), (3, 2, 2)]), NoPouch, 1)
        self.assert_refused([], (5, 0, 0, []), NoPouch, 0)
        self.assert_refused([(3, 1)], (0, 0, 0, [(3, 1, 1)]), NoPouch, 0)

    def test_no_size_goes_ahead_of_places(self):
        self.assert_refused([(3, 1), (4, 1)], exact([7]), NoSize)
        self.assert_refused([(3, 1)], exact([7, 8]), NoSize)


class AllSmall(JudgeTest):
    def test_every_pouch_by_every_row(self):
        seen = {True: 0, False: 0}
        for size in range(6):
            rows = list(itertools.combinations_with_replacement((0, 1, 3), size))
            for pouch in good_pouches(size, (0, 1, 2, 3)):
                for numbers in rows:
                    wrong = first_wrong(numbers, pouch[3])
                    seen[wrong is None] += 1
                    try:
                        told = judge([(number, 1) for number in numbers], pouch)
                    except Wrong as refusal:
                        self.assertEqual(refusal.at, wrong, (numbers, pouch))
                    else:
                        self.assertIs(told, True)
                        self.assertIsNone(wrong, (numbers, pouch))
        self.assertGreater(min(seen.values()), 500)


if __name__ == "__main__":
    unittest.main()

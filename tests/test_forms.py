import copy
import itertools
import unittest

from rankpouch.errors import NoPouch, RankError
from rankpouch.forms import look_pouch

HUGE = 10 ** 60 - 1


def first_fault(pouch):
    """Point 7 written once more, each of its rules as a list of the entries that break it."""
    size, slack, depth, entries = pouch
    if size < 0 or slack < 0 or depth < 0 or (size == 0 and entries) or (size != 0 and not entries):
        return 0
    last = len(entries) - 1
    faults = []
    for at, (number, least, most) in enumerate(entries):
        faults += [at] if least > most else []
        faults += [at] if most > least + slack else []
        faults += [at] if at == 0 and (least, most) != (1, 1) else []
        faults += [at] if at == last and (least, most) != (size, size) else []
    for at, (one, other) in enumerate(zip(entries, entries[1:]), start=1):
        faults += [at] if other[0] < one[0] else []
        faults += [at] if not other[1] > one[1] else []
        faults += [at] if not other[2] > one[2] else []
        faults += [at] if other[0] != one[0] and other[2] > one[1] + slack + 1 else []
    return min(faults) if faults else None


class PouchTest(unittest.TestCase):
    def assert_good(self, pouch):
        before = copy.deepcopy(pouch)
        self.assertIs(look_pouch(pouch), True)
        self.assertEqual(pouch, before)

    def assert_refused(self, pouch, at):
        before = copy.deepcopy(pouch)
        with self.assertRaises(NoPouch) as caught:
            look_pouch(pouch)
        self.assertEqual(caught.exception.at, at)
        self.assertEqual(pouch, before)


class Good(PouchTest):
    def test_empty(self):
        self.assert_good((0, 0, 0, []))
        self.assert_good((0, 5, 3, []))

    def test_one_entry(self):
        self.assert_good((1, 0, 0, [(7, 1, 1)]))
        self.assert_good((1, 9, 2, [(-7, 1, 1)]))

    def test_many_entries(self):
        self.assert_good((3, 0, 0, [(3, 1, 1), (4, 2, 2), (5, 3, 3)]))
        self.assert_good((10, 3, 1, [(1, 1, 1), (4, 3, 5), (6, 5, 7), (9, 7, 8), (9, 10, 10)]))
        self.assert_good((2000, 0, 0, [(number // 3, number, number) for number in range(1, 2001)]))

    def test_equal_numbers_may_lie_far_apart(self):
        self.assert_good((1000000000, 0, 0, [(7, 1, 1), (7, 1000000000, 1000000000)]))

    def test_sizes_and_depths_have_no_bound(self):
        self.assert_good((HUGE, 0, HUGE, [(7, 1, 1), (7, HUGE, HUGE)]))

    def test_numbers_of_sixty_figures(self):
        self.assert_good((4, 0, 0, [(-HUGE, 1, 1), (1 - HUGE, 2, 2), (HUGE - 1, 3, 3), (HUGE, 4, 4)]))
        self.assert_refused((4, 0, 0, [(-HUGE, 1, 1), (1 - HUGE, 2, 2), (HUGE, 3, 3), (HUGE - 1, 4, 4)]), 3)


class Head(PouchTest):
    def test_below_zero(self):
        entries = [(3, 1, 1), (4, 2, 2)]
        self.assert_refused((-1, 0, 0, []), 0)
        self.assert_refused((-2, 0, 0, entries), 0)
        self.assert_refused((2, -1, 0, entries), 0)
        self.assert_refused((2, 0, -1, entries), 0)
        self.assert_refused((0, -1, 0, []), 0)
        self.assert_refused((0, 0, -1, []), 0)

    def test_entries_with_size_0(self):
        self.assert_refused((0, 0, 0, [(3, 1, 1)]), 0)
        self.assert_refused((0, 0, 0, [(3, 0, 0)]), 0)
        self.assert_refused((0, 1, 0, [(3, 1, 1), (4, 0, 0)]), 0)

    def test_no_entries_with_another_size(self):
        self.assert_refused((1, 0, 0, []), 0)
        self.assert_refused((1000000000, 5, 1, []), 0)

    def test_ahead_of_all_else(self):
        broken = [(3, 1, 1), (4, 2, 2), (2, 3, 3)]
        self.assert_refused((3, 0, 0, broken), 2)
        self.assert_refused((-3, 0, 0, broken), 0)
        self.assert_refused((3, -1, 0, broken), 0)
        self.assert_refused((3, 0, -1, broken), 0)
        self.assert_refused((0, 0, 0, broken), 0)


class Entries(PouchTest):
    def test_numbers_fall(self):
        self.assert_good((3, 9, 0, [(3, 1, 1), (3, 2, 2), (3, 3, 3)]))
        self.assert_refused((3, 9, 0, [(3, 1, 1), (2, 2, 2), (3, 3, 3)]), 1)
        self.assert_refused((3, 9, 0, [(3, 1, 1), (3, 2, 2), (2, 3, 3)]), 2)

    def test_leasts_do_not_rise(self):
        self.assert_good((6, 9, 0, [(1, 1, 1), (2, 2, 3), (3, 3, 4), (4, 6, 6)]))
        self.assert_refused((6, 9, 0, [(1, 1, 1), (2, 2, 3), (3, 2, 4), (4, 6, 6)]), 2)
        self.assert_refused((6, 9, 0, [(1, 1, 1), (2, 3, 3), (3, 2, 4), (4, 6, 6)]), 2)
        self.assert_refused((6, 9, 0, [(1, 1, 1), (1, 1, 3), (4, 6, 6)]), 1)

    def test_mosts_do_not_rise(self):
        self.assert_good((6, 9, 0, [(1, 1, 1), (2, 2, 4), (3, 3, 5), (4, 6, 6)]))
        self.assert_refused((6, 9, 0, [(1, 1, 1), (2, 2, 4), (3, 3, 4), (4, 6, 6)]), 2)
        self.assert_refused((6, 9, 0, [(1, 1, 1), (2, 2, 4), (3, 3, 3), (4, 6, 6)]), 2)
        self.assert_refused((6, 9, 0, [(1, 1, 1), (2, 2, 6), (4, 6, 6)]), 2)

    def test_least_above_most(self):
        self.assert_refused((6, 9, 0, [(1, 1, 1), (2, 4, 3), (4, 6, 6)]), 1)

    def test_first_is_not_1(self):
        self.assert_refused((3, 9, 0, [(1, 1, 2), (2, 3, 3)]), 0)
        self.assert_refused((3, 9, 0, [(1, 0, 1), (2, 3, 3)]), 0)
        self.assert_refused((3, 9, 0, [(1, 2, 2), (2, 3, 3)]), 0)
        self.assert_refused((3, 9, 0, [(1, 0, 0), (2, 3, 3)]), 0)
        self.assert_refused((2, 9, 0, [(1, 2, 2)]), 0)

    def test_last_does_not_end_with_size(self):
        self.assert_refused((3, 9, 0, [(1, 1, 1), (2, 2, 3)]), 1)
        self.assert_refused((3, 9, 0, [(1, 1, 1), (2, 3, 4)]), 1)
        self.assert_refused((3, 9, 0, [(1, 1, 1), (2, 2, 2)]), 1)
        self.assert_refused((3, 9, 0, [(1, 1, 1), (2, 2, 2), (2, 4, 4)]), 2)
        self.assert_refused((2, 9, 0, [(1, 1, 1)]), 0)

    def test_slack_too_small_for_an_entry(self):
        # All numbers are equal here, so that no two neighbours ask for slack.
        entries = [(5, 1, 1), (5, 2, 5), (5, 9, 9)]
        self.assert_good((9, 3, 0, entries))
        self.assert_refused((9, 2, 0, entries), 1)

    def test_slack_too_small_for_neighbours(self):
        entries = [(5, 1, 1), (5, 4, 4), (6, 9, 9), (6, 30, 30)]
        self.assert_good((30, 4, 0, entries))
        self.assert_refused((30, 3, 0, entries), 2)

    def test_the_gap_goes_from_least_to_most(self):
        entries = [(5, 1, 1), (5, 4, 6), (6, 7, 9), (6, 10, 10)]
        self.assert_good((10, 4, 0, entries))
        self.assert_refused((10, 3, 0, entries), 2)

    def test_the_first_of_several_faults(self):
        self.assert_refused((9, 9, 0, [(1, 2, 2), (0, 3, 3), (2, 8, 8)]), 0)
        self.assert_refused((9, 9, 0, [(1, 1, 1), (0, 3, 3), (2, 8, 8)]), 1)
        self.assert_refused((9, 9, 0, [(1, 1, 1), (1, 3, 3), (2, 8, 8)]), 2)

    def test_a_fault_at_the_end_of_two_thousand(self):
        entries = [(number, number, number) for number in range(1, 2001)]
        self.assert_refused((2001, 0, 0, entries), 1999)

    def test_the_refusal_is_a_rank_error(self):
        with self.assertRaises(RankError):
            look_pouch((1, 0, 0, []))
        with self.assertRaises(ValueError):
            look_pouch((1, 0, 0, []))


class AllSmall(PouchTest):
    def assert_like_the_rules(self, pouch):
        fault = first_fault(pouch)
        try:
            told = look_pouch(pouch)
        except NoPouch as refusal:
            told = refusal.at
            self.assertEqual(told, fault, pouch)
        else:
            self.assertIs(told, True)
            self.assertIsNone(fault, pouch)

    def test_up_to_two_entries(self):
        entries = list(itertools.product((0, 1), range(4), range(4)))
        for many in range(3):
            for some in itertools.product(entries, repeat=many):
                for size, slack in itertools.product((-1, 0, 1, 2, 3), (-1, 0, 1, 2)):
                    self.assert_like_the_rules((size, slack, 0, list(some)))

    def test_between_a_good_first_and_last_one(self):
        inner = list(itertools.product((0, 1, 2), range(1, 6), range(1, 7)))
        for one, other in itertools.product(inner, repeat=2):
            for slack in range(4):
                self.assert_like_the_rules((6, slack, 0, [(0, 1, 1), one, other, (2, 6, 6)]))


if __name__ == "__main__":
    unittest.main()

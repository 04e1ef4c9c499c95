"""What Gaps, Halves and Often have in common: points 14 and 2, and the edges of 15, 17 and 20."""

import functools
import itertools
import unittest

from helpers import HUGE, LONGEST
from pouch_checks import ALL, BY_RANK, PouchChecks, all_kept, all_told, filled, some_places
from rankpouch.errors import NoPlace, NoTimes, RankError, Unlike
from rankpouch.halves import Halves
from rankpouch.ladder import Gaps
from rankpouch.often import Often
from rankpouch.pouches import Pouch, RankPouch

KEEPS = (1, 2, 3, 1000)
NUMBERS = (0, 7, -7, HUGE, -HUGE)
ROW = [(5, 2), (-3, 1), (5, 3), (0, 4), (-3, 2), (9, 1), (7, 6), (1, 1), (2, 1), (3, 1), (4, 9), (8, 1)]
ASKED = [-HUGE, -4, -3, -2, 0, 1, 4, 5, 6, 9, 10, HUGE]
NO_TIMES = (0, -1, -2, -LONGEST, -HUGE, -10 ** 5000)


def for_each(*keeps, kinds=ALL):
    """Has a test run for each of these classes, and for each of these keeps."""
    def wrapped(test):
        @functools.wraps(test)
        def run(self):
            for kind, keep in itertools.product(kinds, keeps or KEEPS):
                with self.subTest(kind=kind.__name__, keep=keep):
                    test(self, kind, keep)
        return run
    return wrapped


class PouchTest(unittest.TestCase, PouchChecks):
    def assert_refused(self, kind, function, *given):
        with self.assertRaises(RankError) as caught:
            function(*given)
        self.assertIs(type(caught.exception), kind)


class Classes(unittest.TestCase):
    def test_bases(self):
        self.assertEqual(RankPouch.__bases__, (Pouch,))
        self.assertEqual(Often.__bases__, (Pouch,))
        for kind in BY_RANK:
            self.assertEqual(kind.__bases__, (RankPouch,))

    def test_each_has_all_of_the_interface(self):
        common = ["put", "join", "length", "puts", "held", "numbers", "off", "counted"]
        by_rank = common + ["upto", "below", "between", "so_manieth"]
        for kind, names in ((Pouch, common), (RankPouch, by_rank), (Gaps, by_rank + ["pouch"]),
                            (Halves, by_rank + ["weights"]), (Often, common + ["counts", "often"])):
            for name in names:
                self.assertTrue(callable(getattr(kind, name, None)), (kind, name))

    def test_the_bases_by_themselves_tell_nothing(self):
        for kind in (Pouch, RankPouch):
            pouch = kind(3)
            for ask in (pouch.held, pouch.numbers, pouch.off):
                self.assertRaises(NotImplementedError, ask)
        for ask in (Pouch(3).counted, Pouch(3).put, RankPouch(3).upto, RankPouch(3).below, RankPouch(3).so_manieth,
                    RankPouch(3).counted, Pouch(3).join, Pouch(3).take_in):
            self.assertRaises(NotImplementedError, ask, 5)


class Empty(PouchTest):
    @for_each()
    def test_nothing_put_in(self, kind, keep):
        pouch = kind(keep)
        self.assert_true_of([], pouch)
        self.assertEqual([pouch.length(), pouch.puts(), pouch.held(), pouch.off()], [0, 0, 0, 0])
        self.assertEqual((pouch.numbers(), all_kept(pouch)), ([], []))
        self.assertEqual([pouch.counted(number) for number in NUMBERS], [(0, 0)] * len(NUMBERS))

    @for_each(kinds=BY_RANK)
    def test_no_counts(self, kind, keep):
        pouch = kind(keep)
        for number in NUMBERS:
            self.assertEqual([pouch.upto(number), pouch.below(number)], [(0, 0)] * 2)
            self.assertEqual(pouch.between(-HUGE, number), (0, 0))

    @for_each(kinds=BY_RANK)
    def test_no_place(self, kind, keep):
        for place in (1, 0, -1, 2, LONGEST, HUGE):
            self.assert_refused(NoPlace, kind(keep).so_manieth, place)


class Put(PouchTest):
    @for_each()
    def test_one_put(self, kind, keep):
        for number in NUMBERS:
            pouch = kind(keep)
            self.assertIsNone(pouch.put(number))
            self.assertEqual([pouch.length(), pouch.puts(), pouch.held(), pouch.off()], [1, 1, 1, 0])
            self.assertEqual(pouch.numbers(), [number])
            self.assertEqual([pouch.counted(number - 1), pouch.counted(number)], [(0, 0), (1, 1)])
            self.assert_true_of([(number, 1)], pouch)

    @for_each(kinds=BY_RANK)
    def test_the_ranks_of_one_put(self, kind, keep):
        for number in NUMBERS:
            pouch = filled(kind, keep, [(number, 1)])
            self.assertEqual(pouch.so_manieth(1), number)
            self.assertEqual([pouch.upto(number), pouch.below(number)], [(1, 1), (0, 0)])

    @for_each()
    def test_times_left_out_are_one(self, kind, keep):
        without = kind(keep)
        without.put(7)
        by_name = kind(keep)
        by_name.put(number=7, times=1)
        self.assertEqual(all_told(without, ASKED), all_told(filled(kind, keep, [(7, 1)]), ASKED))
        self.assertEqual(all_told(without, ASKED), all_told(by_name, ASKED))

    @for_each()
    def test_one_long_run(self, kind, keep):
        for number in NUMBERS:
            for times in (2, 3, 1000, LONGEST - 1, LONGEST):
                pouch = filled(kind, keep, [(number, times)])
                self.assertEqual(pouch.length(), times)
                self.assertEqual(pouch.puts(), 1)
                self.assertEqual(pouch.numbers(), [number])
                self.assert_true_of([(number, times)], pouch)

    @for_each(4, 5, 1000, kinds=BY_RANK)
    def test_few_are_told_exactly(self, kind, keep):
        row = [(9, 1), (-HUGE, 1), (HUGE, 1), (0, 1)]
        pouch = filled(kind, keep, row)
        self.assertEqual(pouch.off(), 0)
        self.assertEqual([pouch.so_manieth(place) for place in (1, 2, 3, 4)], [-HUGE, 0, 9, HUGE])
        self.assertEqual(pouch.numbers(), [-HUGE, 0, 9, HUGE])
        self.assertEqual([pouch.upto(number) for number in (-1, 0, 9, 10, HUGE)],
                         [(1, 1), (2, 2), (3, 3), (3, 3), (4, 4)])
        self.assertEqual([pouch.below(number) for number in (-HUGE, 0, 9, 10, HUGE)],
                         [(0, 0), (1, 1), (2, 2), (3, 3), (3, 3)])
        self.assertEqual(pouch.between(0, 9), (2, 2))
        self.assertEqual(pouch.between(9, 0), (0, 0))
        self.assert_true_of(row, pouch)

    @for_each()
    def test_one_behind_another(self, kind, keep):
        pouch = kind(keep)
        for at, (number, times) in enumerate(ROW):
            self.assertIsNone(pouch.put(number, times))
            self.assert_true_of(ROW[:at + 1], pouch)

    @for_each()
    def test_numbers_of_sixty_figures(self, kind, keep):
        row = [(sign * (HUGE - more), times) for sign in (1, -1) for more in range(8) for times in (1, 2)]
        self.assert_true_of(row, filled(kind, keep, row))
        self.assert_true_of(row[::-1], filled(kind, keep, row[::-1]))

    @for_each(1001, 1010)
    def test_keep_just_above_the_bound_is_not_refused(self, kind, keep):
        self.assert_true_of(ROW, filled(kind, keep, ROW))


class PutRefused(PouchTest):
    def assert_changes_nothing(self, pouch, times):
        before = all_told(pouch, ASKED)
        self.assert_refused(NoTimes, pouch.put, 4, times)
        self.assertEqual(all_told(pouch, ASKED), before)

    @for_each()
    def test_times_below_one(self, kind, keep):
        for times in NO_TIMES:
            self.assert_changes_nothing(kind(keep), times)
            self.assert_changes_nothing(filled(kind, keep, ROW), times)
            self.assert_changes_nothing(filled(kind, keep, [(4, LONGEST)]), times)

    @for_each()
    def test_too_many_at_once(self, kind, keep):
        for times in (LONGEST + 1, LONGEST + 2, 2 * LONGEST, HUGE, 10 ** 5000):
            self.assert_changes_nothing(kind(keep), times)
            self.assert_changes_nothing(filled(kind, keep, ROW), times)

    @for_each()
    def test_too_many_together(self, kind, keep):
        for length in (1, 2, 500000000, LONGEST - 1, LONGEST):
            pouch = filled(kind, keep, [(7, length)])
            self.assert_changes_nothing(pouch, LONGEST - length + 1)
            self.assert_true_of([(7, length)], pouch)

    @for_each()
    def test_just_as_many_as_may_be(self, kind, keep):
        for length in (1, 2, 500000000, LONGEST - 1):
            row = [(7, length), (4, LONGEST - length)]
            pouch = filled(kind, keep, row)
            self.assert_true_of(row, pouch)
            self.assert_changes_nothing(pouch, 1)

    @for_each()
    def test_after_a_refusal_it_takes_others(self, kind, keep):
        pouch = kind(keep)
        for number, times in ROW:
            self.assert_refused(NoTimes, pouch.put, number, 0)
            self.assert_refused(NoTimes, pouch.put, number, LONGEST + 1)
            pouch.put(number, times)
        self.assertEqual(all_told(pouch, ASKED), all_told(filled(kind, keep, ROW), ASKED))


class Join(PouchTest):
    def join_both(self, kind, keep, row, other):
        """Joins, and holds that the other pouch stays as it is."""
        pouch = filled(kind, keep, row)
        joined = filled(kind, keep, other)
        before = all_told(joined, ASKED)
        self.assertIsNone(pouch.join(joined))
        self.assertEqual(all_told(joined, ASKED), before)
        self.assert_true_of(other, joined)
        self.assert_true_of(row + other, pouch)
        return pouch

    @for_each()
    def test_two(self, kind, keep):
        for part in range(len(ROW) + 1):
            self.join_both(kind, keep, ROW[:part], ROW[part:])
            self.join_both(kind, keep, ROW[part:], ROW[:part])

    @for_each()
    def test_length_and_puts_are_added(self, kind, keep):
        pouch = self.join_both(kind, keep, [(1, 5), (2, 7), (1, 1)], [(1, 100), (3, 1)])
        self.assertEqual((pouch.length(), pouch.puts()), (114, 5))

    @for_each()
    def test_with_an_empty_one(self, kind, keep):
        pouch = self.join_both(kind, keep, ROW, [])
        self.assertEqual(all_told(pouch, ASKED), all_told(filled(kind, keep, ROW), ASKED))
        empty = self.join_both(kind, keep, [], ROW)
        self.assertEqual((empty.length(), empty.puts()), (pouch.length(), len(ROW)))
        self.join_both(kind, keep, [], [])

    @for_each()
    def test_with_itself(self, kind, keep):
        pouch = filled(kind, keep, ROW)
        for times in (1, 2, 3, 4):
            self.assertIsNone(pouch.join(pouch))
            self.assert_true_of(ROW * 2 ** times, pouch)

    @for_each()
    def test_an_empty_one_with_itself(self, kind, keep):
        pouch = kind(keep)
        pouch.join(pouch)
        self.assert_true_of([], pouch)

    @for_each()
    def test_one_run_with_itself(self, kind, keep):
        pouch = filled(kind, keep, [(-7, 500000000)])
        pouch.join(pouch)
        self.assert_true_of([(-7, 500000000)] * 2, pouch)

    @for_each()
    def test_with_itself_until_it_is_full(self, kind, keep):
        pouch = filled(kind, keep, [(number, 1) for number in range(10)])
        times = 1
        while 20 * times <= LONGEST:
            pouch.join(pouch)
            times *= 2
            self.assert_true_of([(number, times) for number in range(10)], pouch, 10 * times, 10)
        before = all_told(pouch, ASKED)
        self.assert_refused(NoTimes, pouch.join, pouch)
        self.assertEqual(all_told(pouch, ASKED), before)

    @for_each()
    def test_the_same_twice(self, kind, keep):
        pouch = filled(kind, keep, ROW[:4])
        other = filled(kind, keep, ROW[4:])
        pouch.join(other)
        pouch.join(other)
        self.assert_true_of(ROW[:4] + ROW[4:] * 2, pouch)
        self.assert_true_of(ROW[4:], other)

    @for_each()
    def test_each_with_the_other(self, kind, keep):
        pouch = filled(kind, keep, ROW[:4])
        other = filled(kind, keep, ROW[4:])
        pouch.join(other)
        other.join(pouch)
        self.assert_true_of(ROW, pouch)
        self.assert_true_of(ROW + ROW[4:], other)

    @for_each()
    def test_just_as_many_as_may_be(self, kind, keep):
        self.join_both(kind, keep, [(1, 1)], [(2, LONGEST - 1)])
        self.join_both(kind, keep, [(2, LONGEST - 1)], [(1, 1)])
        self.join_both(kind, keep, [(2, LONGEST)], [])
        self.join_both(kind, keep, [], [(2, LONGEST)])


class JoinedToSeveral(PouchTest):
    @for_each()
    def test_what_is_put_in_afterwards_is_not_seen_in_the_other(self, kind, keep):
        for part in (1, 3, 6, len(ROW)):
            other = filled(kind, keep, ROW[:part])
            several = [filled(kind, keep, ROW[:at]) for at in (0, 1, 4)]
            rows = [ROW[:at] + ROW[:part] for at in (0, 1, 4)]
            for pouch in several:
                pouch.join(other)
            self.assert_each_alone(several + [other], rows + [ROW[:part]])

    def assert_each_alone(self, pouches, rows):
        """Each in turn takes more, by puts and by a join, and all the others stay."""
        for at, pouch in enumerate(pouches):
            before = [all_told(one, ASKED) for one in pouches]
            more = [(number + at, times) for number, times in ROW * 2]
            for number, times in more:
                pouch.put(number, times)
            pouch.join(pouch)
            rows[at] = (rows[at] + more) * 2
            for other_at, one in enumerate(pouches):
                if other_at != at:
                    self.assertEqual(all_told(one, ASKED), before[other_at])
        for pouch, row in zip(pouches, rows):
            self.assert_true_of(row, pouch)


class JoinRefused(PouchTest):
    def assert_changes_nothing(self, kind, pouch, other):
        before = (all_told(pouch, ASKED), all_told(other, ASKED))
        self.assert_refused(kind, pouch.join, other)
        self.assertEqual((all_told(pouch, ASKED), all_told(other, ASKED)), before)

    def test_another_class(self):
        full = [(1, LONGEST)]
        for row, other in itertools.product(([], ROW, full), repeat=2):
            for kind, another in itertools.permutations(ALL, 2):
                for keep in KEEPS:
                    self.assert_changes_nothing(Unlike, filled(kind, keep, row), filled(another, keep, other))

    @for_each()
    def test_another_keep(self, kind, keep):
        for other in (keep + 1, keep - 1 or 5, 17):
            self.assert_changes_nothing(Unlike, filled(kind, keep, ROW), filled(kind, other, ROW))
            self.assert_changes_nothing(Unlike, kind(keep), kind(other))

    @for_each()
    def test_too_many_together(self, kind, keep):
        for length in (1, 500000000, LONGEST):
            pouch = filled(kind, keep, [(1, length)])
            other = filled(kind, keep, [(2, LONGEST - length), (3, 1)] if length < LONGEST else [(3, 1)])
            self.assert_changes_nothing(NoTimes, pouch, other)
            self.assert_changes_nothing(NoTimes, other, pouch)

    @for_each()
    def test_too_many_with_itself(self, kind, keep):
        for length in (500000001, LONGEST):
            pouch = filled(kind, keep, [(1, length)])
            self.assert_changes_nothing(NoTimes, pouch, pouch)
            self.assert_true_of([(1, length)], pouch)

    def test_unlike_goes_ahead_of_no_times(self):
        full = [(1, LONGEST)]
        for keep in KEEPS:
            for kind in ALL:
                self.assert_changes_nothing(Unlike, filled(kind, keep, full), filled(kind, keep + 1, full))
            for kind, another in itertools.permutations(ALL, 2):
                self.assert_changes_nothing(Unlike, filled(kind, keep, full), filled(another, keep + 1, full))

    @for_each()
    def test_after_a_refusal_it_takes_others(self, kind, keep):
        pouch = filled(kind, keep, ROW[:5])
        self.assert_refused(Unlike, pouch.join, kind(keep + 1))
        self.assert_refused(NoTimes, pouch.join, filled(kind, keep, [(1, LONGEST)]))
        pouch.join(filled(kind, keep, ROW[5:]))
        self.assert_true_of(ROW, pouch)


class Told(PouchTest):
    def lists_of(self, pouch):
        return [pouch.numbers(), all_kept(pouch)] + ([pouch.often(1)] if isinstance(pouch, Often) else [])

    @for_each()
    def test_what_was_told_may_be_changed(self, kind, keep):
        for part in (0, 1, 2, 5, len(ROW)):
            pouch = filled(kind, keep, ROW[:part])
            before = all_told(pouch, ASKED)
            for some in self.lists_of(pouch):
                some.append((99, 1, 1))
                some.reverse()
            self.assertEqual(all_told(pouch, ASKED), before)
            for some in self.lists_of(pouch):
                some.clear()
            self.assertEqual(all_told(pouch, ASKED), before)

    @for_each()
    def test_what_was_told_stays_when_the_pouch_is_changed(self, kind, keep):
        for part in (0, 1, 2, 5, len(ROW)):
            pouch = filled(kind, keep, ROW[:part])
            told = self.lists_of(pouch)
            kept = [list(some) for some in told]
            for number, times in ROW:
                pouch.put(number, times)
                self.assertEqual(told, kept)
            pouch.join(filled(kind, keep, ROW))
            pouch.join(pouch)
            self.assertEqual(told, kept)

    @for_each()
    def test_what_was_told_is_each_time_a_new_one(self, kind, keep):
        pouch = filled(kind, keep, ROW)
        for one, other in zip(self.lists_of(pouch), self.lists_of(pouch)):
            self.assertEqual(one, other)
            self.assertIsNot(one, other)

    @for_each()
    def test_asking_changes_nothing_of_what_comes(self, kind, keep):
        asked_often = kind(keep)
        for number, times in ROW * 3:
            asked_often.put(number, times)
            all_told(asked_often, ASKED)
            if kind in BY_RANK:
                self.assert_refused(NoPlace, asked_often.so_manieth, 0)
        self.assertEqual(all_told(asked_often, ASKED), all_told(filled(kind, keep, ROW * 3), ASKED))


class AllSmall(PouchTest):
    def assert_small(self, row, pouch):
        self.assert_true_of(row, pouch)
        if isinstance(pouch, RankPouch):
            self.assert_so_manieth(row, pouch, some_places(pouch.length(), pouch.length()))

    @for_each(1, 2)
    def test_all_small_rows(self, kind, keep):
        for many in range(6):
            for numbers in itertools.product((0, 1, 3), repeat=many):
                row = [(number, 1) for number in numbers]
                self.assert_small(row, filled(kind, keep, row))

    @for_each(1, 2)
    def test_all_small_runs(self, kind, keep):
        runs = [(number, times) for number in (0, 2) for times in (1, 2, 3)]
        for many in range(4):
            for row in itertools.product(runs, repeat=many):
                self.assert_small(list(row), filled(kind, keep, row))

    @for_each(1, 2)
    def test_all_joins_of_four_small_ones(self, kind, keep):
        parts = [[(4, 1), (1, 1), (3, 2)], [(2, 3)], [(0, 1), (5, 1)], [(1, 1), (1, 1), (6, 1), (2, 1)]]
        for order in itertools.permutations(parts):
            for joins in (((0, 1), (0, 2), (0, 3)), ((2, 3), (1, 2), (0, 1)), ((0, 1), (2, 3), (0, 2)),
                          ((1, 2), (0, 1), (0, 3)), ((1, 2), (1, 3), (0, 1))):
                pouches = [filled(kind, keep, part) for part in order]
                rows = [list(part) for part in order]
                for at, other in joins:
                    pouches[at].join(pouches[other])
                    rows[at] += rows[other]
                for pouch, row in zip(pouches, rows):
                    self.assert_small(row, pouch)


if __name__ == "__main__":
    unittest.main()

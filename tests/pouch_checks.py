"""What points 3, 14, 15, 17, 19 and 20 say of a pouch into which all of a row came, checked by one who has the row."""

import copy

from helpers import HUGE
from rankpouch import asks
from rankpouch.errors import NoPlace
from rankpouch.forms import look_pouch
from rankpouch.halves import Halves
from rankpouch.judge import judge
from rankpouch.ladder import Gaps
from rankpouch.often import Often
from rankpouch.rows import count_below, count_upto, look_row, packed

BY_RANK = (Gaps, Halves)
ALL = BY_RANK + (Often,)


def filled(kind, keep, row):
    pouch = kind(keep)
    for number, times in row:
        pouch.put(number, times)
    return pouch


def most_held(pouch):
    """The bound of held, by point 15, 17 or 20."""
    keep = pouch.keep
    if isinstance(pouch, Often):
        return keep
    if isinstance(pouch, Gaps):
        bits = (pouch.puts() // (keep + 1)).bit_length()
        return (2 * keep + 2) * (bits + 2)
    return (2 * keep - 1) * pouch.length().bit_length()


def most_off(pouch):
    """The bound of off, by point 15, 17 or 20."""
    keep = pouch.keep
    if isinstance(pouch, Often):
        return pouch.length() // (keep + 1)
    if isinstance(pouch, Gaps):
        bits = (pouch.puts() // (keep + 1)).bit_length()
        return ((bits - 1) * pouch.length()) // keep if bits else 0
    part = pouch.length() // (2 * keep)
    return part.bit_length() * part


def asked_of(row):
    stand = sorted({number for number, times in row})
    return sorted({number + more for number in stand for more in (-1, 0, 1)} | {0, HUGE, -HUGE})


def some_of(things, many):
    """At most so many, the first and the last among them, evenly drawn from the others."""
    if len(things) <= many:
        return list(things)
    return [things[at * (len(things) - 1) // (many - 1)] for at in range(many)]


def some_places(length, many=25):
    return [] if length == 0 else sorted(set(some_of(range(1, length + 1), many)) | set(range(1, min(length, 5) + 1)))


def some_leasts(pouch):
    """Counts below, at and above off, and at and about each count kept, all from 1 on."""
    about = [count + more for number, count in pouch.counts() for more in (0, pouch.off())] + [1, pouch.off()]
    leasts = {least + more for least in about for more in (-1, 0, 1)} | {pouch.length(), pouch.length() + 1}
    return some_of(sorted(least for least in leasts if least >= 1), 30)


def all_kept(pouch):
    """The list that only this kind of pouch tells: entries, weights or counts."""
    if isinstance(pouch, Often):
        return pouch.counts()
    return pouch.pouch()[3] if isinstance(pouch, Gaps) else pouch.weights()


def all_told(pouch, asked):
    """All that the pouch tells, to be held against what it tells later."""
    told = [pouch.length(), pouch.puts(), pouch.held(), pouch.numbers(), pouch.off(), all_kept(pouch)]
    told += [pouch.counted(number) for number in asked]
    if isinstance(pouch, Often):
        return copy.deepcopy(told + [pouch.often(least) for least in some_leasts(pouch)])
    if isinstance(pouch, Gaps):
        told.append(pouch.pouch())
    for number in asked:
        told += [pouch.upto(number), pouch.below(number), pouch.between(number, asked[-1])]
    return copy.deepcopy(told + [pouch.so_manieth(place) for place in some_places(pouch.length())])


class PouchChecks:
    """To be mixed into a TestCase."""

    def assert_pair(self, told):
        self.assertIs(type(told), tuple)
        self.assertEqual([type(bound) for bound in told], [int, int])

    def assert_true_of(self, row, pouch, puts=None, many=40):
        """All that holds of a pouch with this row in it, put in by so many puts; asked are at most so many numbers."""
        asked = some_of(asked_of(row), many)
        before = all_told(pouch, asked[:5])
        self.assertEqual(pouch.length(), look_row(row))
        self.assertEqual(pouch.puts(), len(row) if puts is None else puts)
        self.assert_few_kept(row, pouch)
        if isinstance(pouch, Often):
            self.assert_by_counts(row, pouch, asked)
        else:
            self.assert_by_rank(row, pouch, asked)
        self.assertEqual(all_told(pouch, asked[:5]), before)

    def assert_by_rank(self, row, pouch, asked):
        places = some_places(pouch.length())
        self.assertEqual(pouch.numbers() == [], row == [])
        self.assert_counts(row, pouch, asked)
        self.assert_between(row, pouch, asked)
        self.assert_so_manieth(row, pouch, places)
        self.assert_no_places(pouch)
        if isinstance(pouch, Gaps):
            self.assert_by_gaps(row, pouch, asked, places)
        else:
            self.assert_by_halves(row, pouch, asked)

    def assert_few_kept(self, row, pouch):
        numbers = pouch.numbers()
        self.assertIs(type(numbers), list)
        self.assertEqual(numbers, sorted(set(numbers)))
        self.assertLessEqual(set(numbers), {number for number, times in row})
        self.assertLessEqual(len(numbers), pouch.held())
        self.assertLessEqual(pouch.held(), most_held(pouch))
        self.assertTrue(0 <= pouch.off() <= most_off(pouch), (pouch.off(), most_off(pouch)))

    def assert_counts(self, row, pouch, asked):
        off = pouch.off()
        length = pouch.length()
        for number in asked:
            for told, count in ((pouch.upto(number), count_upto(row, number)),
                                (pouch.below(number), count_below(row, number))):
                self.assert_pair(told)
                low, high = told
                self.assertTrue(0 <= low <= count <= high <= length, (number, told, count))
                self.assertLessEqual(high - low, off)

    def assert_between(self, row, pouch, asked):
        for at, one in enumerate(asked):
            for other in {one, asked[(at * 7 + 3) % len(asked)], asked[-1 - at]}:
                told = pouch.between(one, other)
                self.assert_pair(told)
                if other < one:
                    self.assertEqual(told, (0, 0))
                    continue
                ahead = pouch.below(one)
                through = pouch.upto(other)
                self.assertEqual(told, (max(0, through[0] - ahead[1]), through[1] - ahead[0]))
                self.assertTrue(told[0] <= count_upto(row, other) - count_below(row, one) <= told[1], (one, other))
            self.assertEqual(pouch.counted(one), pouch.between(one, one))

    def assert_so_manieth(self, row, pouch, places):
        numbers = set(pouch.numbers())
        off = pouch.off()
        for place in places:
            number = pouch.so_manieth(place)
            self.assertIn(number, numbers)
            self.assertLess(count_below(row, number), place + off)
            self.assertGreaterEqual(count_upto(row, number), place - off)

    def assert_no_places(self, pouch):
        length = pouch.length()
        for place in (0, -1, -length, -HUGE, -10 ** 5000, length + 1, length + 2, 2 * length + 1, HUGE, 10 ** 5000):
            with self.assertRaises(NoPlace):
                pouch.so_manieth(place)

    def assert_by_gaps(self, row, pouch, asked, places):
        told = pouch.pouch()
        self.assertIs(look_pouch(told), True)
        self.assertIs(judge(row, told), True)
        self.assertEqual(told[:2], (pouch.length(), pouch.off()))
        self.assertEqual(pouch.numbers(), sorted({number for number, least, most in told[3]}))
        self.assertEqual(pouch.held(), len(told[3]))
        for number in asked:
            self.assertEqual(pouch.upto(number), asks.upto(told, number))
            self.assertEqual(pouch.below(number), asks.below(told, number))
            for other in (number, asked[0], asked[-1]):
                self.assertEqual(pouch.between(number, other), asks.between(told, number, other))
        for place in places:
            self.assertEqual(pouch.so_manieth(place), asks.so_manieth(told, place))

    def assert_by_halves(self, row, pouch, asked):
        told = pouch.weights()
        self.assertIs(type(told), list)
        self.assertEqual(told, sorted(told))
        self.assertEqual(len(told), pouch.held())
        self.assertEqual(sum(weight for number, weight in told), pouch.length())
        self.assertEqual(pouch.numbers(), sorted({number for number, weight in told}))
        weights = [weight for number, weight in told]
        for weight in set(weights):
            self.assertEqual(weight & (weight - 1), 0)
            self.assertLess(weights.count(weight), 2 * pouch.keep)
        for number in asked:
            kept = sum(weight for kept, weight in told if kept <= number)
            self.assertLessEqual(abs(kept - count_upto(row, number)), pouch.off())

    def assert_by_counts(self, row, pouch, asked):
        times_of = dict(packed(row))
        told = pouch.counts()
        self.assertIs(type(told), list)
        self.assertEqual({type(pair) for pair in told} | {tuple}, {tuple})
        self.assertEqual(pouch.numbers(), [number for number, count in told])
        self.assertEqual(pouch.held(), len(told))
        self.assertTrue(all(count >= 1 for number, count in told))
        kept = sum(count for number, count in told)
        self.assertLessEqual(pouch.off() * (pouch.keep + 1), pouch.length() - kept)
        for number, times in times_of.items():
            if times * (pouch.keep + 1) > pouch.length():
                self.assertIn(number, dict(told))
        for number in asked:
            self.assert_counted(pouch, number, times_of.get(number, 0))
        for least in some_leasts(pouch):
            self.assert_often(pouch, least, times_of)

    def assert_counted(self, pouch, number, times):
        low = dict(pouch.counts()).get(number, 0)
        told = pouch.counted(number)
        self.assert_pair(told)
        self.assertEqual(told, (low, min(low + pouch.off(), pouch.length())))
        self.assertTrue(told[0] <= times <= told[1], (number, told, times))

    def assert_often(self, pouch, least, times_of):
        told = pouch.often(least)
        self.assertIs(type(told), list)
        self.assertEqual(told, [number for number in pouch.numbers() if pouch.counted(number)[1] >= least])
        if least > pouch.off():
            self.assertLessEqual({number for number, times in times_of.items() if times >= least}, set(told))

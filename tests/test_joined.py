"""Rows drawn by fixed seeds, put in by parts and joined in several orders and groupings: points 3, 15, 17 and 20."""

import random
import unittest

from helpers import KINDS, LONGEST
from pouch_checks import ALL, PouchChecks, filled
from rankpouch.rows import look_row

KEEPS = (1, 2, 3, 5, 10, 50, 1000)


def one_behind_another(parts, draw):
    """All are joined to the first one, in order."""
    return [(0, at) for at in range(1, len(parts))]


def backwards(parts, draw):
    """Each is joined to the one before it, from the last one on."""
    return [(at - 1, at) for at in range(len(parts) - 1, 0, -1)]


def by_pairs(parts, draw):
    joins = []
    apart = 1
    while apart < len(parts):
        joins += [(at, at + apart) for at in range(0, len(parts) - apart, 2 * apart)]
        apart *= 2
    return joins


def anyhow(parts, draw):
    left = list(range(len(parts)))
    joins = []
    while len(left) > 1:
        one, other = draw.sample(left, 2)
        left.remove(other)
        joins.append((one, other))
    return joins


GROUPINGS = (one_behind_another, backwards, by_pairs, anyhow)


def parted(row, draw, many):
    """The runs in so many parts, each in any order, some of them without any run."""
    parts = [[] for _ in range(many)]
    for run in row:
        draw.choice(parts).append(run)
    return parts


def one_by_one(row):
    return [(number, 1) for number, times in row for _ in range(times)]


class Joined(unittest.TestCase, PouchChecks):
    def joined(self, kind, keep, parts, joins):
        """Joins as told, and looks at both pouches of some joins; tells the last one joined to, and its row."""
        pouches = [filled(kind, keep, part) for part in parts]
        rows = [list(part) for part in parts]
        last = 0
        for step, (at, other) in enumerate(joins):
            pouches[at].join(pouches[other])
            rows[at] = rows[at] + rows[other]
            last = at
            if step % 16 == 3:
                self.assert_true_of(rows[at], pouches[at], many=5)
                self.assert_true_of(rows[other], pouches[other], many=5)
        return rows[last], pouches[last]

    def assert_joined(self, row, draw, keep, many):
        parts = parted(row, draw, many)
        for kind in ALL:
            for grouping in GROUPINGS:
                with self.subTest(kind=kind.__name__, grouping=grouping.__name__, keep=keep, many=many):
                    whole, pouch = self.joined(kind, keep, parts, grouping(parts, draw))
                    self.assertEqual(sorted(whole), sorted(row))
                    self.assert_true_of(row, pouch, many=20)

    def test_rows_of_every_kind(self):
        for seed in range(6):
            for rows in KINDS:
                draw = random.Random(f"joined {rows.__name__} {seed}")
                row = rows(draw)
                for many in (2, 5, len(row)):
                    self.assert_joined(row, draw, draw.choice(KEEPS), many)

    def test_run_by_run_and_number_by_number(self):
        for seed in range(6):
            draw = random.Random(f"one by one {seed}")
            row = KINDS[0](draw)
            draw.shuffle(row)
            for kind in ALL:
                for keep in (1, 2, 3, 50):
                    self.assert_true_of(row, filled(kind, keep, row))
                    self.assert_true_of(one_by_one(row), filled(kind, keep, one_by_one(row)))

    def test_many_with_few_puts_each(self):
        draw = random.Random("many with few")
        for keep in (1, 2, 3, 10):
            row = [(draw.randint(-500, 500), draw.randint(1, 3)) for _ in range(700)]
            self.assert_joined(row, draw, keep, 400)

    def test_few_with_many_puts_each(self):
        draw = random.Random("few with many")
        for keep in (1, 3, 20, 100):
            row = [(draw.randint(-900, 900), draw.randint(1, 500000)) for _ in range(1900)]
            self.assert_joined(row, draw, keep, 3)

    def test_some_are_put_in_between_joins(self):
        for kind in ALL:
            for seed in range(10):
                draw = random.Random(f"between {seed}")
                keep = draw.choice((1, 2, 4, 9))
                pouches = [kind(keep) for _ in range(4)]
                rows = [[] for _ in pouches]
                while min(map(len, rows)) < 30:
                    at = draw.randrange(4)
                    if draw.randrange(12) or len(rows[at]) > 200:
                        run = (draw.randint(-50, 50), draw.choice((1, 1, 2, 7)))
                        pouches[at].put(*run)
                        rows[at].append(run)
                    else:
                        other = draw.randrange(4)
                        pouches[at].join(pouches[other])
                        rows[at] = rows[at] + rows[other]
                for pouch, row in zip(pouches, rows):
                    self.assert_true_of(row, pouch, many=20)

    def test_up_to_the_longest_row(self):
        draw = random.Random("longest")
        for kind in ALL:
            for keep in (1, 7, 1000):
                row = [(draw.randint(-40, 40), draw.randint(1, LONGEST // 60)) for _ in range(60)]
                row.append((0, LONGEST - look_row(row)))
                parts = parted(row, draw, 7)
                whole, pouch = self.joined(kind, keep, parts, by_pairs(parts, draw))
                self.assertEqual(pouch.length(), LONGEST)
                self.assert_true_of(whole, pouch)


if __name__ == "__main__":
    unittest.main()

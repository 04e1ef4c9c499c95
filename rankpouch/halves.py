"""Pouches by halves: levels of numbers, each number standing for twice as many as one of the level below it."""

from rankpouch.pouches import RankPouch
from rankpouch.rows import count_below, count_upto, number_at


def halved(some, turn):
    ordered = sorted(some)
    even = len(ordered) - len(ordered) % 2
    return (ordered[turn:even:2], ordered[even:])


class Halves(RankPouch):
    def __init__(self, keep):
        RankPouch.__init__(self, keep)
        self.levels = []
        self.turns = []
        self.over = 0
        self.under = 0

    def same_kind(self, other):
        return isinstance(other, Halves)

    def take(self, number, times):
        level = 0
        while times > 0:
            if times % 2 == 1:
                self.lay([number], level)
            times = times // 2
            level = level + 1
        self.settle()

    def take_in(self, other):
        # A copy is walked, as the other one may be this very pouch.
        for level, some in enumerate(list(other.levels)):
            self.lay(some, level)
        self.over = self.over + other.over
        self.under = self.under + other.under
        self.settle()

    def lay(self, some, level):
        while level >= len(self.levels):
            self.levels.append([])
            self.turns.append(0)
        # A new list, as the one that lies here may lie in another pouch too.
        self.levels[level] = self.levels[level] + some

    def settle(self):
        weight = 1
        level = 0
        while level < len(self.levels):
            if len(self.levels[level]) >= 2 * self.keep:
                self.halve(level, weight)
            weight = weight * 2
            level = level + 1

    def halve(self, level, weight):
        turn = self.turns[level]
        parts = halved(self.levels[level], turn)
        self.levels[level] = parts[1]
        self.lay(parts[0], level + 1)
        self.turns[level] = 1 - turn
        if turn == 0:
            self.over = self.over + weight
        else:
            self.under = self.under + weight

    def stand_ins(self):
        # A row that stands in for the one put in: told by few runs, of the same length, its counts off by little.
        runs = []
        weight = 1
        for some in self.levels:
            runs.extend([(number, weight) for number in some])
            weight = weight * 2
        return runs

    def weights(self):
        return sorted(self.stand_ins())

    def kept(self):
        return [run[0] for run in self.stand_ins()]

    def off(self):
        return self.over + self.under

    def upto(self, number):
        return self.bounds(count_upto(self.stand_ins(), number))

    def below(self, number):
        return self.bounds(count_below(self.stand_ins(), number))

    def bounds(self, count):
        return (max(0, count - self.over), min(self.many, count + self.under))

    def so_manieth(self, place):
        # The counts below and upto a number of this row are both off by at most what this pouch is off.
        return number_at(self.stand_ins(), place)

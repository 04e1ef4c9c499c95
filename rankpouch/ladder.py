"""Pouches by gaps: a ladder of data pouches.

The newest runs are kept whole. Where they have too many numbers, they become a data pouch and are laid to level 0.
Two that come to one level are merged, thinned and laid to the next one, so one of a level has come from at least
twice as many puts as one of the level below it, and each number has been through few thinnings.
"""

from rankpouch.asks import below, so_manieth, summed, upto
from rankpouch.gaps import empty, merged, of_row, thinned
from rankpouch.pouches import RankPouch


class Gaps(RankPouch):
    def __init__(self, keep):
        RankPouch.__init__(self, keep)
        self.newest = {}
        self.laid = {}

    def same_kind(self, other):
        return isinstance(other, Gaps)

    def take(self, number, times):
        self.newest[number] = self.newest.get(number, 0) + times
        # Unlike numbers are counted, not puts: so those that come again and again cost neither room nor slack.
        if len(self.newest) > self.keep:
            self.lay(self.newest_pouch(), 0)
            self.newest = {}

    def take_in(self, other):
        # Both are read ahead of all else, as the other one may be this very pouch.
        laid = list(other.laid.items())
        runs = list(other.newest.items())
        for level, part in laid:
            self.lay(part, level)
        for number, times in runs:
            self.take(number, times)

    def lay(self, part, level):
        # A data pouch is never changed, so one that lies in another pouch too may lie here.
        while level in self.laid:
            part = thinned(merged(self.laid.pop(level), part), self.keep)
            level = level + 1
        self.laid[level] = part

    def newest_pouch(self):
        return of_row(list(self.newest.items()))

    def parts(self):
        return [self.newest_pouch()] + list(self.laid.values())

    def pouch(self):
        whole = empty()
        for part in self.parts():
            whole = merged(whole, part)
        return whole

    def kept(self):
        numbers = []
        for part in self.parts():
            numbers.extend([entry[0] for entry in part[3]])
        return numbers

    def off(self):
        return sum([part[1] for part in self.parts()])

    def upto(self, number):
        return summed([upto(part, number) for part in self.parts()])

    def below(self, number):
        return summed([below(part, number) for part in self.parts()])

    def so_manieth(self, place):
        return so_manieth(self.pouch(), place)

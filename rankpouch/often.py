"""The most frequent numbers of a row: few counts are kept, all too small by at most the same."""

from rankpouch.pouches import Pouch


def cut(counts, keep):
    taken = 0
    if len(counts) > keep:
        taken = sorted([pair[1] for pair in counts], reverse=True)[keep]
    return (sorted([(pair[0], pair[1] - taken) for pair in counts if pair[1] > taken]), taken)


class Often(Pouch):
    def __init__(self, keep):
        Pouch.__init__(self, keep)
        self.tally = {}
        self.lost = 0

    def same_kind(self, other):
        return isinstance(other, Often)

    def take(self, number, times):
        self.count_in(number, times)
        self.cut_down()

    def take_in(self, other):
        # The counts told are a list of their own, as the other one may be this very pouch.
        for number, count in other.counts():
            self.count_in(number, count)
        self.lost = self.lost + other.lost
        self.cut_down()

    def count_in(self, number, times):
        self.tally[number] = self.tally.get(number, 0) + times

    def cut_down(self):
        # Nothing is taken from so few, and looking first spares sorting them at each put.
        if len(self.tally) > self.keep:
            left = cut(list(self.tally.items()), self.keep)
            self.tally = dict(left[0])
            self.lost = self.lost + left[1]

    def counts(self):
        return sorted(self.tally.items())

    def kept(self):
        return list(self.tally)

    def off(self):
        return self.lost

    def counted(self, number):
        # A cut takes from more than keep counts at once, so off and any one count come to at most the length.
        low = self.tally.get(number, 0)
        return (low, low + self.lost)

    def often(self, least):
        return [number for number in self.numbers() if self.counted(number)[1] >= least]

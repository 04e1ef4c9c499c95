"""Windows: what the last numbers of a row come to.

Each full block of numbers is a thinned data pouch; the numbers behind the last full one are kept as they came. Where
the last numbers begin within a block, all of it is taken, and those taken beyond the last count as off.
"""

from rankpouch.asks import summed, upto
from rankpouch.errors import NoPlace
from rankpouch.gaps import bounds_ahead, of_row, thinned
from rankpouch.rows import number_at


class Window:
    def __init__(self, length, block, keep):
        self.reach = length
        self.block = block
        self.keep = keep
        self.many = 0
        self.full = []
        self.newest = []

    def put(self, number):
        self.many = self.many + 1
        self.newest.append(number)
        if len(self.newest) == self.block:
            self.full.append(thinned(pouch_of(self.newest), self.keep))
            self.newest = []
        self.drop_oldest()

    def drop_oldest(self):
        others = (len(self.full) - 1) * self.block + len(self.newest)
        if others >= self.reach:
            self.full.pop(0)

    def upto(self, number, last=None):
        last = self.look_last(last)
        parts = self.parts(last)
        bounds = summed([upto(part, number) for part in parts])
        return (max(0, bounds[0] - beyond(parts, last)), min(last, bounds[1]))

    def so_manieth(self, place, last=None):
        last = self.look_last(last)
        # The place itself is left out of the refusal's words: Python won't write a number of thousands of figures.
        if place < 1 or place > last:
            raise NoPlace("the places go from 1 to last")
        parts = self.parts(last)
        runs = []
        for part in parts:
            runs.extend(midway(part))
        # Those beyond the last may all stand ahead of the place or all behind it: half of them is least far from both.
        return number_at(runs, place + beyond(parts, last) // 2)

    def off(self, last=None):
        last = self.look_last(last)
        parts = self.parts(last)
        return beyond(parts, last) + sum([part[1] for part in parts])

    def held(self):
        return len(self.newest) + sum([len(part[3]) for part in self.full])

    def look_last(self, last):
        most = min(self.reach, self.many)
        if last is None:
            last = most
        if last < 1 or last > most:
            raise NoPlace("last goes from 1 to the length and to how many were put in")
        return last

    def parts(self, last):
        # The newest are kept in order, so of them none is taken that is not among the last.
        newest = self.newest[-last:]
        blocks = (last - len(newest) + self.block - 1) // self.block
        return self.full[len(self.full) - blocks:] + [pouch_of(newest)]


def pouch_of(numbers):
    return of_row([(number, 1) for number in numbers])


def beyond(parts, last):
    return sum([part[0] for part in parts]) - last


def midway(pouch):
    # A row of the same length, whose counts lie halfway between the bounds that the data pouch tells.
    runs = []
    ahead = 0
    for at, entry in enumerate(pouch[3], start=1):
        through = sum(bounds_ahead(pouch, at)) // 2
        runs.append((entry[0], through - ahead))
        ahead = through
    return runs

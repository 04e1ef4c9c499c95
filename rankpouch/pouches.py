"""What all pouches have. Each kind of them adds how it takes numbers in, what it keeps, and what it tells of them."""

from rankpouch.asks import apart
from rankpouch.errors import NoTimes, Unlike
from rankpouch.rows import LONGEST


class Pouch:
    def __init__(self, keep):
        self.keep = keep
        self.many = 0
        self.taken = 0

    def put(self, number, times=1):
        # The times are left out of the refusal's words: Python won't write a number of thousands of figures.
        if times < 1:
            raise NoTimes("times begin with 1")
        self.look_room(times)
        self.take(number, times)
        self.many = self.many + times
        self.taken = self.taken + 1

    def join(self, other):
        if not self.same_kind(other) or other.keep != self.keep:
            raise Unlike("only a pouch of the same class and with the same keep can be joined")
        self.look_room(other.many)
        self.take_in(other)
        self.many = self.many + other.many
        self.taken = self.taken + other.taken

    def look_room(self, more):
        if self.many + more > LONGEST:
            raise NoTimes(f"a pouch takes at most {LONGEST} numbers")

    def length(self):
        return self.many

    def puts(self):
        return self.taken

    def held(self):
        return len(self.kept())

    def numbers(self):
        return sorted(set(self.kept()))

    def off(self):
        raise NotImplementedError("each kind of pouch tells this itself")

    def counted(self, number):
        raise NotImplementedError("each kind of pouch tells this itself")

    def same_kind(self, other):
        raise NotImplementedError("each kind of pouch knows its own")

    def take(self, number, times):
        raise NotImplementedError("each kind of pouch takes a run in its own way")

    def take_in(self, other):
        # The other one may be this very pouch, and stays as it is where it is not.
        raise NotImplementedError("each kind of pouch takes another in its own way")

    def kept(self):
        # The number of each entry, item or count that is kept, in any order.
        raise NotImplementedError("each kind of pouch keeps numbers in its own way")


class RankPouch(Pouch):
    def upto(self, number):
        raise NotImplementedError("each kind of pouch tells this itself")

    def below(self, number):
        raise NotImplementedError("each kind of pouch tells this itself")

    def so_manieth(self, place):
        raise NotImplementedError("each kind of pouch tells this itself")

    def between(self, one, other):
        if other < one:
            return (0, 0)
        return apart(self.below(one), self.upto(other))

    def counted(self, number):
        return self.between(number, number)

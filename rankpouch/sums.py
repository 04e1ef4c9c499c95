"""Sums of the last numbers of a row: blocks of numbers one behind another, the older the greater."""

from rankpouch.errors import NoPlace


class Sums:
    def __init__(self, keep):
        self.keep = keep
        self.many = 0
        self.levels = []

    def put(self, number):
        self.many = self.many + 1
        self.lay((1, number, number, number), 0)

    def lay(self, block, level):
        # A level's blocks are all newer than those of the next one, so the two oldest here are the newest there.
        if level == len(self.levels):
            self.levels.append([])
        some = self.levels[level]
        some.append(block)
        if len(some) > self.keep:
            self.levels[level] = some[2:]
            self.lay(together(some[0], some[1]), level + 1)

    def blocks(self):
        told = []
        for some in reversed(self.levels):
            told.extend(some)
        return told

    def last(self, many):
        # The number asked for is left out of the refusal's words: Python won't write one of thousands of figures.
        if many < 1 or many > self.many:
            raise NoPlace("the last ones are from 1 to as many as were put in")
        low = 0
        high = 0
        left = many
        for block in reversed(self.blocks()):
            part = min(left, block[0])
            bounds = sum_of_some(block, part)
            low = low + bounds[0]
            high = high + bounds[1]
            left = left - part
        return (low, high)


def together(one, other):
    return (one[0] + other[0], one[1] + other[1], min(one[2], other[2]), max(one[3], other[3]))


def sum_of_some(block, many):
    if many == block[0]:
        return (block[1], block[1])
    return (many * block[2], many * block[3])

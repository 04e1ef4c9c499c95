"""What a data pouch of a good form tells of the row."""

from rankpouch.errors import NoPlace
from rankpouch.gaps import bounds_ahead


def upto(pouch, number):
    return bounds_ahead(pouch, first_where(pouch[3], lambda entry: entry[0] > number))


def below(pouch, number):
    return bounds_ahead(pouch, first_where(pouch[3], lambda entry: entry[0] >= number))


def between(pouch, one, other):
    if other < one:
        return (0, 0)
    return apart(below(pouch, one), upto(pouch, other))


def apart(ahead, through):
    return (max(0, through[0] - ahead[1]), through[1] - ahead[0])


def summed(bounds):
    # One merged of several tells just the sums of what they tell, so it need not be made for each number asked for.
    return (sum([pair[0] for pair in bounds]), sum([pair[1] for pair in bounds]))


def so_manieth(pouch, place):
    # The place itself is left out of the refusal's words: Python won't write a number of thousands of figures.
    if place < 1 or place > pouch[0]:
        raise NoPlace("the places go from 1 to the size")
    entries = pouch[3]
    farthest = place + (pouch[1] + 1) // 2
    # The first entry's most is 1, so one stands before whichever is found.
    return entries[first_where(entries, lambda entry: entry[2] > farthest) - 1][0]


def first_where(entries, holds):
    # Numbers never fall and mosts rise, so what holds for one entry holds for all behind it: halving finds the first.
    start = 0
    end = len(entries)
    while start < end:
        middle = (start + end) // 2
        if holds(entries[middle]):
            end = middle
        else:
            start = middle + 1
    return start

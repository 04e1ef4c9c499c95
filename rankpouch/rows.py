"""Rows: lists of runs (number, times), in any order.

look_row tells the length of a row or refuses it; the others are told rows that look_row lets by.
"""

from rankpouch.errors import NoPlace, NoRow

LONGEST = 1000000000


def look_row(row):
    length = 0
    for at, run in enumerate(row):
        times = run[1]
        length = length + times
        if times < 1 or length > LONGEST:
            raise NoRow(at)
    return length


def count_upto(row, number):
    return sum([run[1] for run in row if run[0] <= number])


def count_below(row, number):
    return sum([run[1] for run in row if run[0] < number])


def number_at(row, place):
    # The place itself is left out of the refusal's words: Python won't write a number of thousands of figures.
    if place < 1:
        raise NoPlace("places begin with 1")
    last_place = 0
    for number, times in packed(row):
        last_place = last_place + times
        if place <= last_place:
            return number
    raise NoPlace("the row ends before this place")


def packed(row):
    times_of = {}
    for number, times in row:
        times_of[number] = times_of.get(number, 0) + times
    return [(number, times_of[number]) for number in sorted(times_of)]


def places_of(row):
    # Each number has its first and its last place in the sorted row; the numbers come rising.
    places = {}
    length = 0
    for number, times in packed(row):
        places[number] = (length + 1, length + times)
        length = length + times
    return places

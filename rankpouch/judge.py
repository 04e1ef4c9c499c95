"""The judge: has the whole row, and says whether a data pouch tells of it truly."""

from rankpouch.errors import NoSize, Wrong
from rankpouch.forms import look_pouch
from rankpouch.rows import look_row, places_of


def judge(row, pouch):
    length = look_row(row)
    look_pouch(pouch)
    if pouch[0] != length:
        raise NoSize("the size is not the row's length")
    look_places(places_of(row), pouch[3])
    return True


def look_places(places, entries):
    place = 0
    for at, entry in enumerate(entries):
        if entry[0] not in places:
            raise Wrong(at)
        stands = places[entry[0]]
        # The earliest place that serves leaves the most room for the entries behind, so no later one need be tried.
        place = max(place + 1, entry[1], stands[0])
        if place > entry[2] or place > stands[1]:
            raise Wrong(at)

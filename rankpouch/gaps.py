"""Data pouches (size, slack, depth, entries), entries a list of (number, least, most): made, merged and thinned.

Those that are handed in have a good form, as forms.look_pouch asks it.
"""

from rankpouch.forms import near_enough
from rankpouch.rows import look_row, places_of


def empty():
    return (0, 0, 0, [])


def of_run(number, times):
    entries = [(number, 1, 1)]
    if times != 1:
        entries.append((number, times, times))
    return (times, 0, 0, entries)


def of_row(row):
    entries = []
    for number, stands in places_of(row).items():
        entries.append((number, stands[0], stands[0]))
        if stands[0] != stands[1]:
            entries.append((number, stands[1], stands[1]))
    return (look_row(row), 0, 0, entries)


def merged(one, other):
    size = one[0] + other[0]
    slack = one[1] + other[1]
    depth = max(one[2], other[2])
    return (size, slack, depth, merged_entries(one, other))


def merged_entries(one, other):
    entries = []
    at = 0
    other_at = 0
    while at < len(one[3]) or other_at < len(other[3]):
        if goes_first(one[3], at, other[3], other_at):
            entries.append(moved(one[3][at], other, other_at))
            at = at + 1
        else:
            entries.append(moved(other[3][other_at], one, at))
            other_at = other_at + 1
    return entries


def goes_first(entries, at, others, other_at):
    if at == len(entries):
        return False
    return other_at == len(others) or entries[at][0] <= others[other_at][0]


def moved(entry, pouch, at):
    ahead = bounds_ahead(pouch, at)
    return (entry[0], entry[1] + ahead[0], entry[2] + ahead[1])


def bounds_ahead(pouch, at):
    # What lies just ahead of the entry at has so many numbers of the row ahead of it, from low to high.
    entries = pouch[3]
    low = entries[at - 1][1] if at > 0 else 0
    high = entries[at][2] - 1 if at < len(entries) else pouch[0]
    return (low, high)


def thinned(pouch, keep):
    size = pouch[0]
    slack = pouch[1] + size // keep
    return (size, slack, pouch[2] + 1, kept_entries(pouch[3], slack))


def kept_entries(entries, slack):
    kept = []
    last = len(entries) - 1
    for at, entry in enumerate(entries):
        # Where the next one is too far from the one kept before, this is the farthest that is not.
        if at == 0 or at == last or not near_enough(kept[-1], entries[at + 1], slack):
            kept.append(entry)
    return kept

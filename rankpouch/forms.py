"""The form of a data pouch (size, slack, depth, entries), entries a list of (number, least, most)."""

from rankpouch.errors import NoPouch


def look_pouch(pouch):
    if not good_head(pouch):
        raise NoPouch(0)
    for at in range(len(pouch[3])):
        if not good_entry(pouch, at):
            raise NoPouch(at)
    return True


def good_head(pouch):
    size = pouch[0]
    slack = pouch[1]
    depth = pouch[2]
    entries = pouch[3]
    if size < 0 or slack < 0 or depth < 0:
        return False
    return (size == 0) == (len(entries) == 0)


def good_entry(pouch, at):
    size = pouch[0]
    slack = pouch[1]
    entries = pouch[3]
    entry = entries[at]
    if at == 0 and not stands_at(entry, 1):
        return False
    if at == len(entries) - 1 and not stands_at(entry, size):
        return False
    if not good_alone(entry, slack):
        return False
    return at == 0 or good_beside(entries[at - 1], entry, slack)


def stands_at(entry, place):
    return entry[1] == place and entry[2] == place


def good_alone(entry, slack):
    least = entry[1]
    most = entry[2]
    return least <= most and most - least <= slack


def good_beside(before, entry, slack):
    if entry[0] < before[0] or entry[1] <= before[1] or entry[2] <= before[2]:
        return False
    return near_enough(before, entry, slack)


def near_enough(before, entry, slack):
    # Between equal numbers every place holds that number too, so a wide gap there leaves nothing unknown.
    return entry[0] == before[0] or entry[2] <= before[1] + slack + 1

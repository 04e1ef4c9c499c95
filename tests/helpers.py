"""What several test files need: bounds, rows laid out and drawn, and every small data pouch of a good form."""

import copy
import itertools

LONGEST = 1000000000
HUGE = 10 ** 60 - 1


def laid_out(row):
    return sorted(number for number, times in row for _ in range(times))


def exact(numbers):
    """The data pouch that keeps every one of the numbers."""
    return (len(numbers), 0, 0, [(number, place, place) for place, number in enumerate(sorted(numbers), start=1)])


def least_slack(entries):
    """The least slack with which the entries have a good form, by point 7."""
    wide = [most - least for _, least, most in entries]
    wide += [other[2] - one[1] - 1 for one, other in zip(entries, entries[1:]) if one[0] != other[0]]
    return max(wide, default=0)


def inner_bounds(size):
    """All the leasts and mosts that can stand between a first entry at 1 and a last one at size."""
    places = range(2, size)
    for many in range(len(places) + 1):
        for leasts in itertools.combinations(places, many):
            for mosts in itertools.combinations(places, many):
                if all(least <= most for least, most in zip(leasts, mosts)):
                    yield list(zip(leasts, mosts))


def all_bounds(size):
    if size == 1:
        yield [(1, 1)]
    elif size > 1:
        for inner in inner_bounds(size):
            yield [(1, 1)] + inner + [(size, size)]


def good_pouches(size, numbers=(0, 1, 3)):
    """Every data pouch of a good form with this size, over these numbers, with the least slack and with one more."""
    if size == 0:
        yield (0, 0, 0, [])
        yield (0, 1, 2, [])
    for bounds in all_bounds(size):
        for some in itertools.combinations_with_replacement(numbers, len(bounds)):
            entries = [(number, least, most) for number, (least, most) in zip(some, bounds)]
            slack = least_slack(entries)
            yield (size, slack, 0, entries)
            yield (size, slack + 1, 1, list(entries))


def stays(function, *given):
    """What the function tells; fails where it touches what it is given, or answers unlike when asked again."""
    before = copy.deepcopy(given)
    told = function(*given)
    kept = copy.deepcopy(told)
    if given != before:
        raise AssertionError(f"{function.__name__} changed what it was given: {before} to {given}")
    if function(*given) != kept or told != kept:
        raise AssertionError(f"{function.__name__} answered unlike when asked again: {given}")
    return told


def few_numbers(draw):
    return [(draw.randint(-3, 3), draw.randint(1, 4)) for _ in range(draw.randint(1, 40))]


def many_numbers(draw):
    return [(draw.randint(-200, 200), 1) for _ in range(draw.randint(1, 120))]


def long_runs(draw):
    many = draw.randint(1, 30)
    return [(draw.randint(-20, 20), draw.randint(1, LONGEST // many)) for _ in range(many)]


def sixty_figures(draw):
    ends = (-HUGE, 1 - HUGE, 2 - HUGE, 0, HUGE - 2, HUGE - 1, HUGE)
    return [(draw.choice(ends + (draw.randint(-HUGE, HUGE),)), draw.randint(1, 9)) for _ in range(draw.randint(1, 40))]


def rising(draw):
    return sorted(many_numbers(draw))


def falling(draw):
    return sorted(many_numbers(draw), reverse=True)


KINDS = (few_numbers, many_numbers, long_runs, sixty_figures, rising, falling)

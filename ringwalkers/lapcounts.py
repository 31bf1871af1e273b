"""Stands within so many laps: counted, listed, and the busiest of them."""

from math import perm

from ringwalkers.counting import choose, power
from ringwalkers.laps import need_laps, who_may
from ringwalkers.paths import walkers_of
from ringwalkers.places import first_places, key_of


def count_within(path, laps):
    """How many stands are within laps."""
    many = len(walkers_of(path))
    need_laps(laps)
    return count_of_within(many, laps)


def count_of_within(many, laps):
    return sum([choose(many - 1, rows - 1) * perm(many, many - rows) * power(laps, many - rows)
                for rows in range(1, many + 1)])


def count_just(path, laps):
    """How many stands have just laps as their greatest net."""
    many = len(walkers_of(path))
    need_laps(laps)
    if laps == 0:
        return 1
    return count_of_within(many, laps) - count_of_within(many, laps - 1)


def stands_within(path, laps):
    """All stands within laps, as the lists of their places compare."""
    names = walkers_of(path)
    need_laps(laps)
    return all_within(names, laps)


def all_within(names, laps):
    rows = [[(name, 0)] for name in names]
    for _ in names[1:]:
        rows = [row + [lead] for row in rows for lead in next_leads(names, row, laps)]
    return sorted([places_of_row(names, row) for row in rows], key=lambda places: key_of(names, places))


def next_leads(names, row, laps):
    """Who can come next in a row, each with how many laps they are ahead of the hindmost, who begins the row."""
    met = [name for name, _ in row]
    last = max([names.index(name) for name, ahead in row if ahead == 0])
    # All laps ahead of somebody earlier in the row is within for those only who stand later in the path's order.
    return [(name, ahead) for index, name in enumerate(names) if name not in met
            for ahead in range(laps + 1) if ahead < laps or index > last]


def places_of_row(names, row):
    """The stand in which each one of the row is one place ahead of the one before, but for whole laps."""
    many = len(names)
    leads = {name: index + many * ahead for index, (name, ahead) in enumerate(row)}
    least = sum([ahead for _, ahead in row])
    return {name: leads[name] - least for name in names}


def last_within(path, laps):
    """All stands within laps from which nobody may overtake."""
    names = walkers_of(path)
    need_laps(laps)
    return [places for places in all_within(names, laps) if not who_may(names, places, laps)]


def most_within(path, laps):
    """The most overtakings that a stand within laps has in all."""
    many = len(walkers_of(path))
    need_laps(laps)
    if laps == 0:
        return 0
    half = many // 2
    return half * (many - half) * laps + choose(half, 2) + choose(many - half, 2)


def busiest(path, laps):
    """A stand within laps that has the most overtakings."""
    names = walkers_of(path)
    need_laps(laps)
    if laps == 0:
        return first_places(names)
    half = len(names) // 2
    slow = names[:half]
    fast = names[half:]
    places = {}
    # All fast ones went round all slow ones; among themselves the later ones were overtaken once by the earlier ones.
    for index, name in enumerate(slow):
        places[name] = half - 1 - index - laps * len(fast)
    for index, name in enumerate(fast):
        places[name] = len(names) - 1 - index + laps * len(slow)
    return places

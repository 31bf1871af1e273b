"""Stands within spans, counted and listed, and the spans of some stands."""

from ringwalkers.commonbounds import each_nets, need_stands
from ringwalkers.paths import walkers_of
from ringwalkers.places import ahead_of, change_places, key_of, nets_among, pairs_of, places_of_key
from ringwalkers.rooms import greatest_nets, stand_below
from ringwalkers.spans import lies_within, most_of, need_spans


def count_fits(path, spans):
    """How many stands are within the spans, None if there is no end of them."""
    names = walkers_of(path)
    need_spans(names, spans)
    keys = keys_within(names, spans)
    return None if keys is None else len(keys)


def all_fits(path, spans):
    """All stands within the spans, by their tables; None if there is no end of them."""
    names = walkers_of(path)
    need_spans(names, spans)
    keys = keys_within(names, spans)
    if keys is None:
        return None
    stands = [places_of_key(names, key) for key in keys]
    return sorted(stands, key=lambda stand: table_numbers(names, stand))


def table_numbers(names, places):
    """The nets alone, in the order of the table."""
    nets = nets_among(names, places)
    return [nets[pair] for pair in pairs_of(names)]


def keys_within(names, spans):
    """All stands within, as keys, None if there is no end of them.

    From each of them a shortest run leads to each other one, and all stands on it are within.
    """
    most = most_of(names, spans)
    begin = stand_below(names, most)
    if begin is None:
        return []
    if len(greatest_nets(names, most)) < len(pairs_of(names)):
        return None
    found = [key_of(names, begin)]
    known = {found[0]: True}
    queue = [found[0]]
    while queue:
        here = queue.pop()
        for key in keys_next_to(names, here):
            if key not in known and lies_within(names, spans, places_of_key(names, key)):
                known[key] = True
                found.append(key)
                queue.append(key)
    return found


def keys_next_to(names, key):
    """The stands, as keys, to which one overtaking leads from the one with a key."""
    places = places_of_key(names, key)
    ahead = ahead_of(names, places)
    keys = []
    for one in names:
        moved = dict(places)
        change_places(moved, one, ahead[one])
        keys.append(key_of(names, moved))
    return keys


def spans_of(path, stands):
    """The least and the most net of each pair in some stands."""
    names = walkers_of(path)
    need_stands(names, stands)
    nets = each_nets(names, stands)
    return {pair: (min([each[pair] for each in nets]), max([each[pair] for each in nets])) for pair in pairs_of(names)}

"""Places as plain dicts by names: what the other files count with. Nothing is checked here."""

from ringwalkers.kinds import is_dict_of, is_integer


def is_standing(names, thing):
    """Whether any object is a stand of the walkers with these names."""
    if not is_dict_of(names, thing, is_integer):
        return False
    many = len(names)
    if sum([thing[name] for name in names]) != many * (many - 1) // 2:
        return False
    return len({thing[name] % many for name in names}) == many


def in_order(names, values):
    """A new dict with the values of the names, in the order of the names."""
    return {name: values[name] for name in names}


def key_of(names, places):
    """The places alone, in the order of the names: a key, and what stands compare by."""
    return tuple([places[name] for name in names])


def places_of_key(names, key):
    return dict(zip(names, key))


def first_places(names):
    return {name: index for index, name in enumerate(names)}


def pairs_of(names):
    """All pairs of unlike walkers, by one, then by other."""
    return [(one, other) for one in names for other in names if one != other]


def pairs_ahead(names):
    """All pairs of walkers of whom one stands ahead of other in the order of the names."""
    return [(one, other) for index, one in enumerate(names) for other in names[index + 1:]]


def ahead_of(names, places):
    """Who is right ahead, of each walker."""
    many = len(names)
    by_rest = {places[name] % many: name for name in names}
    return {name: by_rest[(places[name] + 1) % many] for name in names}


def row_from(names, places, walker):
    """All walkers, each right behind the next one, from the walker on."""
    ahead = ahead_of(names, places)
    row = [walker]
    while len(row) < len(names):
        row.append(ahead[row[-1]])
    return row


def is_right_behind(names, places, one, other):
    return (places[one] + 1 - places[other]) % len(names) == 0


def change_places(places, one, other):
    """One overtakes other: the places themselves change."""
    places[one] += 1
    places[other] -= 1


def nets_among(names, places):
    """The dict from all pairs of unlike walkers to their nets."""
    return nets_by(names, places, len(names))


def nets_by(names, distances, lap):
    """The nets of walkers who are so far on a path with such a lap, on which at first all were within one lap."""
    nets = {}
    for one, other in pairs_of(names):
        nets[one, other] = (distances[one] - distances[other]) // lap
    for one, other in pairs_ahead(names):
        # At first the quotient of who is ahead in the order is -1, that of the other one 0.
        nets[one, other] += 1
    return nets


def add_nets(nets, one, over):
    """One's nets over others come to the nets of pairs, and with them those of the turned pairs."""
    for other in over:
        nets[one, other] = over[other]
        nets[other, one] = -over[other]


def placed_by(names, nets):
    """The places by which the walkers have these nets, if there are such."""
    first = first_places(names)
    return {one: first[one] + sum([nets[one, other] for other in names if other != one]) for one in names}

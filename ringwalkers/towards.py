"""What is left between two stands, and going on from the one to the other."""

from ringwalkers.places import ahead_of, change_places, key_of, nets_among, places_of_key


def left_between(names, places, goal):
    """How often one has to overtake other, for all pairs."""
    now = nets_among(names, places)
    then = nets_among(names, goal)
    return {pair: max(then[pair] - now[pair], 0) for pair in now}


def left_in_all(left):
    return sum(list(left.values()))


def begin_with(names, places, left):
    """The overtakings that may come next, by one in the order of the names."""
    ahead = ahead_of(names, places)
    return [(one, ahead[one]) for one in names if left[one, ahead[one]] > 0]


def do_one(places, left, one, other):
    """One overtakes other: places, and what is left, change."""
    change_places(places, one, other)
    left[one, other] -= 1


def go_on(names, places, left):
    """Goes on till nothing is left, always by the first overtaking that may come next, and tells the run.

    Places, and what is left, change.
    """
    run = []
    for _ in range(left_in_all(left)):
        one, other = begin_with(names, places, left)[0]
        do_one(places, left, one, other)
        run.append((one, other))
    return run


def keys_behind(names, key, goal):
    """The stands, as keys, that one overtaking leads to from the stand with a key, on shortest runs to the goal."""
    places = places_of_key(names, key)
    behind = []
    for one, other in begin_with(names, places, left_between(names, places, goal)):
        moved = dict(places)
        change_places(moved, one, other)
        behind.append(key_of(names, moved))
    return behind


def stands_on_the_way(names, begin, goal):
    """All stands by which shortest runs go, by how many overtakings it takes to them, then by their places."""
    level = [key_of(names, begin)]
    found = []
    while level:
        found = found + level
        next_ones = {behind: True for key in level for behind in keys_behind(names, key, goal)}
        level = sorted(next_ones)
    return [places_of_key(names, key) for key in found]

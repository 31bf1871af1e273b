"""Stands whose nets are bounded above: most tells, of some pairs, the greatest net that is let."""

from ringwalkers.places import first_places, nets_by, placed_by
from ringwalkers.rows import least_distances, least_sums


def rooms_of(names, most):
    """How many laps, as places divided by n, the one of each pair stays below, above the other."""
    first = first_places(names)
    return {(one, other): most[one, other] + one_if_later(first, one, other) for one, other in most}


def one_if_later(first, one, other):
    """1 if one stands later in the order than other, else 0."""
    return 1 if first[one] > first[other] else 0


def greatest_nets(names, most):
    """The greatest net of each pair in stands so bounded, if there are such; without a pair that has no bound."""
    first = first_places(names)
    sums = least_sums(names, rooms_of(names, most))
    return {(one, other): sums[one, other] - one_if_later(first, one, other) for one, other in sums}


def room_steps(names, most):
    """By how much at most one may be farther than other, in n-ths of a lap.

    So a ring of rooms, 1 lap together at least, is wide enough for going 1 less than each of its rooms.
    """
    rooms = rooms_of(names, most)
    return {pair: rooms[pair] * len(names) - 1 for pair in rooms}


def stand_below(names, most):
    """A stand in which each net is at most what most tells of its pair, None if there is none."""
    distances = least_distances(names, room_steps(names, most))
    if distances is None:
        return None
    many = len(names)
    # Finer by n again, so that no two who come to one point are together.
    fine = {name: distances[name] * many + index for index, name in enumerate(names)}
    return placed_by(names, nets_by(names, fine, many * many))


def stand_right_behind(names, most, one, other):
    """A stand, if there is such, in which one is right behind other, their net the most, and each other one at most so.

    As if both were at one point, one just behind: the next overtaking of one leads beyond the most.
    """
    steps = room_steps(names, most)
    steps[one, other] = (most[one, other] + one_if_later(first_places(names), one, other)) * len(names)
    steps[other, one] = -steps[one, other]
    distances = least_distances(names, steps)
    many = len(names)
    # Finer by 2 * n: no two who come to one point are together, and there is room just behind other.
    fine = {name: 2 * (distances[name] * many + index) for index, name in enumerate(names)}
    fine[one] = fine[other] + 2 * steps[one, other] * many - 1
    return placed_by(names, nets_by(names, fine, 2 * many * many))

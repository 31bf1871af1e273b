"""Stands in which nets do not go beyond bounds."""

from ringwalkers.places import first_places, nets_by, placed_by


def stand_below(names, most):
    """A stand in which each net is at most what most tells of its pair, None if there is none.

    Distances are told in n-ths of a lap, so that a ring of rooms, 1 lap together at least, is wide enough
    for going 1 less than each of its rooms.
    """
    distances = least_distances(names, room_steps(names, most))
    if distances is None:
        return None
    many = len(names)
    # Finer by n again, so that no two who come to one point are together.
    fine = {name: distances[name] * many + index for index, name in enumerate(names)}
    return placed_by(names, nets_by(names, fine, many * many))


def room_steps(names, most):
    """By how much at most one may be farther than other, in n-ths of a lap."""
    many = len(names)
    first = first_places(names)
    steps = {}
    for one, other in most:
        room = most[one, other] + (1 if first[one] > first[other] else 0)
        steps[one, other] = room * many - 1
    return steps


def least_distances(names, steps):
    """Distances of which none is above another one by more than the pair's step, None if there are none."""
    distances = {name: 0 for name in names}
    for _ in names:
        changed = False
        for one, other in steps:
            if distances[other] + steps[one, other] < distances[one]:
                distances[one] = distances[other] + steps[one, other]
                changed = True
        if not changed:
            return distances
    return None

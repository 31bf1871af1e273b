"""Notes up to so many, and the numbers noted: what the files that tell of them share."""

from ringwalkers.errors import BadMost, BadNoted
from ringwalkers.kinds import is_dict_of, is_number, is_times
from ringwalkers.places import change_places, first_places, in_order, nets_among, pairs_of


def need_most(most):
    if not is_times(most):
        raise BadMost(most)


def need_noted(names, noted):
    if not is_dict_of(names, noted, is_number):
        raise BadNoted(noted)


def notes_among(names, places, most):
    """What each noted of each other one, for all pairs of unlike walkers."""
    nets = nets_among(names, places)
    return {pair: min(max(nets[pair], 0), most) for pair in nets}


def noted_among(names, places, most):
    """What each noted of all others together."""
    notes = notes_among(names, places, most)
    return {one: sum([notes[one, other] for other in names if other != one]) for one in names}


def first_fault(names, noted, most):
    """The first place among the ascending numbers at which there is too great a one, and that one; None without one."""
    for index, number in enumerate(sorted([noted[name] for name in names])):
        if number > index * most:
            return index, number
    return None


def least_walk(names, noted, most):
    """The places and the run to which the rule of the more left leads, for numbers without a fault."""
    row = list(names)
    left = in_order(names, noted)
    places = first_places(names)
    times = {pair: 0 for pair in pairs_of(names)}
    run = []
    index = 0
    # How many, one right behind another, have no more left than the one right ahead.
    still = 0
    while still < len(names):
        ahead = (index + 1) % len(names)
        one = row[index]
        other = row[ahead]
        if left[one] > left[other]:
            row[index], row[ahead] = other, one
            change_places(places, one, other)
            run.append((one, other))
            times[one, other] += 1
            if times[one, other] <= most:
                left[one] -= 1
            still = 0
        else:
            still += 1
        index = ahead
    return places, run

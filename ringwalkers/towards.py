"""What is left between two stands, and going on from the one to the other."""

from ringwalkers.places import ahead_of, change_places, nets_among


def left_between(names, places, goal):
    """How often one has to overtake other, for all pairs."""
    now = nets_among(names, places)
    then = nets_among(names, goal)
    return {pair: max(then[pair] - now[pair], 0) for pair in now}


def left_in_all(left):
    return sum(list(left.values()))


def begin_with(names, places, left):
    """The overtakings that may come next, by one in the order of the names."""
    ahead = ahead_of(names, places)
    return [(one, ahead[one]) for one in names if left[one, ahead[one]] > 0]


def do_one(places, left, one, other):
    """One overtakes other: places, and what is left, change."""
    change_places(places, one, other)
    left[one, other] -= 1


def go_on(names, places, left):
    """Goes on till nothing is left, always by the first overtaking that may come next, and tells the run.

    Places, and what is left, change.
    """
    run = []
    for _ in range(left_in_all(left)):
        one, other = begin_with(names, places, left)[0]
        do_one(places, left, one, other)
        run.append((one, other))
    return run

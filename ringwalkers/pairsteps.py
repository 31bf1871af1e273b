"""Two walkers by drawn steps: who overtakes the other first, and how far one is from the other behind the steps."""

from ringwalkers.counting import fraction, power
from ringwalkers.drawnsteps import further_on, need_steps


def chance_first(path, stand, one, other):
    """The chance that one overtakes other ahead of other overtaking one."""
    further = further_on(path, stand, one, other)
    many = len(path.walkers())
    return fraction(many + 1 - further, many + 2)


def mean_steps(path, stand, one, other):
    """The mean of how many steps there are till one of both overtakes the other."""
    further = further_on(path, stand, one, other)
    many = len(path.walkers())
    return fraction(many * (further * (many - further) + many - 1), 4)


def chances_further(path, stand, one, other, steps):
    """The chances of how far on other is, behind the steps."""
    further = further_on(path, stand, one, other)
    need_steps(steps)
    many = len(path.walkers())
    ways = first_ways(many, further)
    for _ in range(steps):
        ways = next_ways(many, ways)
    all_ways = power(many, steps)
    return {place: fraction(ways[place], all_ways) for place in ways}


def mean_net(path, stand, one, other, steps):
    """The mean of by how much the net of one and other grows."""
    further = further_on(path, stand, one, other)
    need_steps(steps)
    many = len(path.walkers())
    ways = first_ways(many, further)
    grown = 0
    for _ in range(steps):
        grown = grown * many + ways[1] - ways[many - 1]
        ways = next_ways(many, ways)
    return fraction(grown, power(many, steps))


def first_ways(many, further):
    """How often other is so far on: once as it is, ahead of all steps."""
    return {place: 1 if place == further else 0 for place in range(1, many)}


def next_ways(many, ways):
    """In how many ways other is so far on, one step later."""
    behind = {place: 0 for place in ways}
    for place, known in ways.items():
        # Two overtakings lead on, and two back; at the ends these two are one: one of both overtakes the other.
        on = 1 if place == many - 1 else 2
        back = 1 if place == 1 else 2
        behind[1 if place == many - 1 else place + 1] += on * known
        behind[many - 1 if place == 1 else place - 1] += back * known
        behind[place] += (many - on - back) * known
    return behind

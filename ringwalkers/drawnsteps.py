"""Drawn steps: at each one of all walkers, each alike, overtakes the one right ahead."""

from ringwalkers.checks import need_number_below, need_stand, need_unlike_walkers
from ringwalkers.choosers import need_chooser
from ringwalkers.counting import choose, fraction, power
from ringwalkers.kinds import is_integer, is_number
from ringwalkers.paths import walkers_of
from ringwalkers.places import ahead_of, change_places, in_order
from ringwalkers.refusals import BadMore, BadSteps


def need_steps(steps):
    if not is_number(steps):
        raise BadSteps(steps)


def further_on(path, stand, one, other):
    """How many walkers further on than one other is."""
    names = walkers_of(path)
    need_stand(names, stand)
    need_unlike_walkers(names, one, other)
    return (stand[other] - stand[one]) % len(names)


def chance_grown(path, steps, more):
    """The chance that behind so many steps a walker's place is greater by more."""
    many = len(walkers_of(path))
    need_steps(steps)
    if not is_integer(more):
        raise BadMore(more)
    ways = 0
    for up in range(max(more, 0), (steps + more) // 2 + 1):
        down = up - more
        ways += choose(steps, up) * choose(steps - up, down) * power(many - 2, steps - up - down)
    return fraction(ways, power(many, steps))


def mean_square(path, steps):
    """The mean of the square of what a walker's place grows by."""
    many = len(walkers_of(path))
    need_steps(steps)
    return fraction(2 * steps, many)


def drawn_run(path, stand, steps, chooser):
    """The run of so many steps in which those overtake whose index the chooser tells, and the stand behind it."""
    names = walkers_of(path)
    need_stand(names, stand)
    need_steps(steps)
    need_chooser(chooser)
    places = in_order(names, stand)
    run = []
    for _ in range(steps):
        number = chooser(len(names))
        need_number_below(len(names), number)
        one = names[number]
        other = ahead_of(names, places)[one]
        change_places(places, one, other)
        run.append((one, other))
    return run, places

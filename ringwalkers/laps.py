"""Stands in which nobody overtook anybody more often than so many laps."""

from ringwalkers.checks import need_stand
from ringwalkers.kinds import is_number
from ringwalkers.paths import walkers_of
from ringwalkers.places import ahead_of, nets_among
from ringwalkers.refusals import BadLaps, NotWithin


def is_within(path, stand, laps):
    """Whether no net is above laps."""
    names = walkers_of(path)
    need_stand(names, stand)
    need_laps(laps)
    return greatest_net(names, stand) <= laps


def most_laps(path, stand):
    """The greatest net."""
    names = walkers_of(path)
    need_stand(names, stand)
    return greatest_net(names, stand)


def greatest_net(names, places):
    return max(list(nets_among(names, places).values()))


def first_beyond(path, stand, laps):
    """The first pair whose net is above laps, None if there is none."""
    names = walkers_of(path)
    need_stand(names, stand)
    need_laps(laps)
    nets = nets_among(names, stand)
    beyond = [pair for pair in nets if nets[pair] > laps]
    return beyond[0] if beyond else None


def need_laps(laps):
    if not is_number(laps):
        raise BadLaps(laps)


def leads(path, stand):
    """By how much each place is above the least one."""
    names = walkers_of(path)
    need_stand(names, stand)
    least = min([stand[name] for name in names])
    return {name: stand[name] - least for name in names}


def may_overtake(path, stand, laps):
    """The overtakings that may come next, so that of any two only one overtakes the other, and all stays within."""
    names = walkers_of(path)
    need_stand(names, stand)
    need_laps(laps)
    if greatest_net(names, stand) > laps:
        raise NotWithin(stand)
    return who_may(names, stand, laps)


def who_may(names, places, laps):
    """The overtakings that may come next, in a stand within laps."""
    ahead = ahead_of(names, places)
    nets = nets_among(names, places)
    return [(one, ahead[one]) for one in names if 0 <= nets[one, ahead[one]] < laps]

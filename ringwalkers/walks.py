"""Walks: all keep their paces, and whoever is faster catches the others again and again."""

from math import gcd

from ringwalkers.checks import need_stand, need_walker
from ringwalkers.counting import fraction
from ringwalkers.errors import BadTimes
from ringwalkers.kinds import is_number, is_times
from ringwalkers.paces import catch_hour, caught_below, faster_by, is_ahead_of, is_walking
from ringwalkers.paths import walkers_of
from ringwalkers.places import first_places, nets_among, pairs_of, placed_by
from ringwalkers.refusals import BadHour, BadWalk


def is_walk(path, thing):
    """Whether any object is a walk."""
    return is_walking(walkers_of(path), thing)


def need_walk(names, walk):
    if not is_walking(names, walk):
        raise BadWalk(walk)


def need_hour(hour):
    if not is_number(hour):
        raise BadHour(hour)


def faster_pairs(names, walk):
    """All pairs of whom the one has the greater pace, by one, then by other."""
    return [(one, other) for one, other in pairs_of(names) if faster_by(walk, one, other) > 0]


def stand_then(path, walk, hour):
    """The stand just ahead of an hour."""
    names = walkers_of(path)
    need_walk(names, walk)
    need_hour(hour)
    nets = {pair: 0 for pair in pairs_of(names)}
    for one, other in faster_pairs(names, walk):
        nets[one, other] = caught_below(walk, one, other, hour)
        nets[other, one] = -nets[one, other]
    return placed_by(names, nets)


def caught_at(path, walk, one, other, times):
    """The hour at which one catches other for the times-th time, None if one is not faster."""
    names = walkers_of(path)
    need_walk(names, walk)
    need_walker(names, one)
    need_walker(names, other)
    if not is_times(times):
        raise BadTimes(times)
    if faster_by(walk, one, other) <= 0:
        return None
    top, bottom = catch_hour(walk, one, other, times)
    return fraction(top, bottom)


def next_catch(path, walk, hour):
    """The first hour from this one on at which somebody catches somebody, and who does; None if all paces are equal."""
    names = walkers_of(path)
    need_walk(names, walk)
    need_hour(hour)
    first = None
    pairs = []
    for one, other in faster_pairs(names, walk):
        caught = catch_hour(walk, one, other, caught_below(walk, one, other, hour) + 1)
        if first is None or is_ahead_of(caught, first):
            first = caught
            pairs = [(one, other)]
        elif not is_ahead_of(first, caught):
            pairs.append((one, other))
    if first is None:
        return None
    return fraction(first[0], first[1]), pairs


def as_at_first(path, walk):
    """The first hour above 0 at which all are as far from one another as at first; None if they always are."""
    names = walkers_of(path)
    need_walk(names, walk)
    lap, _, _ = walk
    common = 0
    for name in names:
        common = gcd(common, faster_by(walk, name, names[0]))
    if common == 0:
        return None
    return fraction(lap, common)


def shown(path, walk, stand):
    """Above which hour, and up to which one, a stand is shown; None if it never is."""
    names = walkers_of(path)
    need_walk(names, walk)
    need_stand(names, stand)
    nets = nets_among(names, stand)
    if not may_be_shown(walk, nets):
        return None
    faster = faster_pairs(names, walk)
    begins = [catch_hour(walk, one, other, nets[one, other]) for one, other in faster if nets[one, other] > 0]
    ends = [catch_hour(walk, one, other, nets[one, other] + 1) for one, other in faster]
    begin = last_hour(begins)
    end = first_hour(ends)
    if begin is not None and not is_ahead_of(begin, end):
        return None
    return told_hour(begin), told_hour(end)


def may_be_shown(walk, nets):
    """Whether nobody overtook whom they are not faster than."""
    return all([nets[one, other] <= 0 for one, other in nets if faster_by(walk, one, other) <= 0])


def last_hour(hours):
    last = None
    for hour in hours:
        if last is None or is_ahead_of(last, hour):
            last = hour
    return last


def first_hour(hours):
    first = None
    for hour in hours:
        if first is None or is_ahead_of(hour, first):
            first = hour
    return first


def told_hour(hour):
    if hour is None:
        return None
    return fraction(hour[0], hour[1])


def walk_to(path, stand):
    """A walk by which the stand is shown at hour 1."""
    names = walkers_of(path)
    need_stand(names, stand)
    posts = first_places(names)
    least = min([stand[name] - posts[name] for name in names])
    return len(names), posts, {name: stand[name] - posts[name] - least for name in names}

"""Runs: lists of overtakings, and long ones told as blocks."""

from ringwalkers.checks import need_stand
from ringwalkers.errors import BadBlocks, BadRun
from ringwalkers.kinds import is_list, is_list_of, is_times, is_two_walkers
from ringwalkers.paths import walkers_of
from ringwalkers.places import ahead_of, change_places, in_order, is_right_behind


def run_end(path, stand, run):
    """The stand behind all overtakings of the run."""
    names = walkers_of(path)
    need_stand(names, stand)
    if not is_list(run):
        raise BadRun(0)
    places = in_order(names, stand)
    fault = walk(names, places, run)
    if fault is not None:
        raise BadRun(fault)
    return places


def walk(names, places, run):
    """Goes a run, by which the places change; the index of the first thing that is no overtaking, None without one."""
    for index, thing in enumerate(run):
        if not is_two_walkers(names, thing):
            return index
        one, other = thing
        if not is_right_behind(names, places, one, other):
            return index
        change_places(places, one, other)
    return None


def is_one_way(path, run):
    names = walkers_of(path)
    if not is_list(run):
        raise BadRun(0)
    for index, thing in enumerate(run):
        if not is_two_walkers(names, thing):
            raise BadRun(index)
    return goes_one_way(run)


def goes_one_way(run):
    """Whether of any two walkers only one overtakes the other in a list of right pairs."""
    done = {(one, other): True for one, other in run}
    return not any([(other, one) in done for one, other in run])


def blocks_end(path, stand, blocks):
    """The stand behind all blocks."""
    names = walkers_of(path)
    need_stand(names, stand)
    if not is_list(blocks):
        raise BadBlocks(0)
    places = in_order(names, stand)
    fault = walk_blocks(names, places, blocks)
    if fault is not None:
        raise BadBlocks(fault)
    return places


def walk_blocks(names, places, blocks):
    """Goes blocks, by which the places change; the index of the first thing that is none, None without one."""
    for index, thing in enumerate(blocks):
        if not is_list_of(2, thing):
            return index
        run, times = thing
        if not is_list(run) or not is_times(times):
            return index
        before = dict(places)
        if walk(names, places, run) is not None:
            return index
        if times > 1:
            if ahead_of(names, places) != ahead_of(names, before):
                return index
            # Each time the places grow as they did the first time.
            for name in names:
                places[name] += (places[name] - before[name]) * (times - 1)
    return None

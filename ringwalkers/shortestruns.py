"""Shortest runs from a stand to a later one."""

from ringwalkers.checks import need_stand
from ringwalkers.errors import BadMany
from ringwalkers.kinds import is_list, is_number
from ringwalkers.paths import walkers_of
from ringwalkers.places import ahead_of, in_order, nets_among
from ringwalkers.runs import goes_one_way, walk, walk_blocks
from ringwalkers.towards import begin_with, go_on, left_between, left_in_all


def fewest(path, stand, later):
    """How many overtakings a shortest run has."""
    names = walkers_of(path)
    need_stand(names, stand)
    need_stand(names, later)
    return left_in_all(left_between(names, stand, later))


def first_ones(path, stand, later):
    """The overtakings with which a shortest run can begin."""
    names = walkers_of(path)
    need_stand(names, stand)
    need_stand(names, later)
    return begin_with(names, stand, left_between(names, stand, later))


def last_ones(path, stand, later):
    """The overtakings with which a shortest run can end."""
    names = walkers_of(path)
    need_stand(names, stand)
    need_stand(names, later)
    left = left_between(names, stand, later)
    ahead = ahead_of(names, later)
    return [(one, other) for one in names for other in names if ahead[other] == one and left[one, other] > 0]


def shortest_run(path, stand, later):
    """A shortest run, told as blocks."""
    names = walkers_of(path)
    need_stand(names, stand)
    need_stand(names, later)
    return shortest_blocks(names, stand, later)


def shortest_blocks(names, stand, later):
    places = in_order(names, stand)
    left = left_between(names, stand, later)
    # Whoever grows more never is overtaken by who grows less, so each cut parts who goes round from whom they go round.
    rising = sorted(names, key=lambda name: later[name] - stand[name])
    blocks = []
    for cut in range(1, len(names)):
        slow = rising[:cut]
        fast = rising[cut:]
        times = min([left[one, other] for one in fast for other in slow])
        if times > 0:
            blocks.append((once_round(names, places, fast, slow), times))
            take_off(places, left, fast, slow, times)
    rest = go_on(names, places, left)
    if rest:
        blocks.append((rest, 1))
    return blocks


def once_round(names, places, fast, slow):
    """A run by which each fast one overtakes each slow one once."""
    goal = in_order(names, places)
    for name in fast:
        goal[name] += len(slow)
    for name in slow:
        goal[name] -= len(fast)
    return go_on(names, in_order(names, places), left_between(names, places, goal))


def take_off(places, left, fast, slow, times):
    """The fast ones have gone round the slow ones so often: places, and what is left, change."""
    for one in fast:
        places[one] += times * len(slow)
        for other in slow:
            left[one, other] -= times
    for other in slow:
        places[other] -= times * len(fast)


def is_shortest(path, stand, later, thing):
    """Whether any object is blocks of a shortest run."""
    names = walkers_of(path)
    need_stand(names, stand)
    need_stand(names, later)
    places = in_order(names, stand)
    if not is_list(thing) or walk_blocks(names, places, thing) is not None:
        return False
    return places == in_order(names, later) and goes_one_way([pair for run, _ in thing for pair in run])


def is_between(path, stand, later, mid):
    """Whether a shortest run goes by mid."""
    names = walkers_of(path)
    need_stand(names, stand)
    need_stand(names, later)
    need_stand(names, mid)
    begin = nets_among(names, stand)
    end = nets_among(names, later)
    middle = nets_among(names, mid)
    return all([min(begin[pair], end[pair]) <= middle[pair] <= max(begin[pair], end[pair]) for pair in middle])


def stand_after(path, stand, later, many):
    """A stand by which a shortest run goes behind so many overtakings."""
    names = walkers_of(path)
    need_stand(names, stand)
    need_stand(names, later)
    if not is_number(many) or many > left_in_all(left_between(names, stand, later)):
        raise BadMany(many)
    places = in_order(names, stand)
    for run, times in shortest_blocks(names, stand, later):
        whole = min(times, many // len(run))
        many -= whole * len(run)
        if whole > 0:
            walk_blocks(names, places, [(run, whole)])
        if whole < times:
            walk(names, places, run[:many])
            return places
    return places

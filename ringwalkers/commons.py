"""Common stands: the last one earlier than all of some, and the first one later than all, or a ring."""

from ringwalkers.checks import need_stand
from ringwalkers.commonbounds import each_nets, first_ring, forced_most, held_most, need_no_ring, need_stands
from ringwalkers.kinds import is_integer, is_list, is_list_of, is_walker
from ringwalkers.paths import walkers_of
from ringwalkers.places import first_places, nets_among, placed_by
from ringwalkers.rooms import greatest_nets
from ringwalkers.towards import left_between, left_in_all, stands_on_the_way


def is_earlier(path, stand, later):
    """Whether a shortest run from the first stand to later goes by stand."""
    names = walkers_of(path)
    need_stand(names, stand)
    need_stand(names, later)
    begin = nets_among(names, stand)
    end = nets_among(names, later)
    return all([min(end[pair], 0) <= begin[pair] <= max(end[pair], 0) for pair in begin])


def last_common(path, stands):
    """The stand that is earlier than all of these, and later than each other such one."""
    names = walkers_of(path)
    need_stands(names, stands)
    greatest = greatest_nets(names, held_most(each_nets(names, stands)))
    held = {pair: max(greatest[pair], 0) for pair in greatest}
    return placed_by(names, {(one, other): held[one, other] - held[other, one] for one, other in held})


def first_common(path, stands):
    """The stand that is later than all of these, and earlier than each other such one, None if there is none."""
    names = walkers_of(path)
    need_stands(names, stands)
    nets = each_nets(names, stands)
    if first_ring(names, nets) is not None:
        return None
    return least_later(names, nets)


def least_later(names, nets):
    """The first common later stand, if there is no ring."""
    greatest = greatest_nets(names, forced_most(nets))
    forced = {}
    for one, other in nets[0]:
        # That one overtook other at least so often is told by the turned pair; without it neither has to.
        forced[one, other] = greatest.get((one, other), 0) - greatest.get((other, one), 0)
    return placed_by(names, forced)


def common_ring(path, stands):
    """Walkers each of whom overtook the next one in the stand with the index, None if there is a common later one."""
    names = walkers_of(path)
    need_stands(names, stands)
    return first_ring(names, each_nets(names, stands))


def is_common_ring(path, stands, thing):
    """Whether any object is such a ring."""
    names = walkers_of(path)
    need_stands(names, stands)
    if not is_list(thing) or len(thing) < 2 or not all([is_ring_part(names, stands, part) for part in thing]):
        return False
    walkers = [walker for walker, _ in thing]
    if len({walker for walker in walkers}) < len(walkers):
        return False
    nets = each_nets(names, stands)
    nexts = walkers[1:] + walkers[:1]
    return all([nets[index][walker, other] > 0 for (walker, index), other in zip(thing, nexts)])


def is_ring_part(names, stands, thing):
    if not is_list_of(2, thing):
        return False
    walker, index = thing
    return is_walker(names, walker) and is_integer(index) and 0 <= index < len(stands)


def to_common(path, stands):
    """How many overtakings lead from each of these stands to the first common later one."""
    names = walkers_of(path)
    need_stands(names, stands)
    nets = each_nets(names, stands)
    need_no_ring(names, nets)
    common = least_later(names, nets)
    return [left_in_all(left_between(names, stand, common)) for stand in stands]


def earlier_ones(path, stand):
    """All stands earlier than a stand, by how many overtakings they have in all, then by their places."""
    names = walkers_of(path)
    need_stand(names, stand)
    return stands_on_the_way(names, first_places(names), stand)

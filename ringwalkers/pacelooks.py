"""Paces told back from looks: at some hours all stood so."""

from ringwalkers.checks import need_walker
from ringwalkers.kinds import is_list, is_list_of, is_times
from ringwalkers.paces import are_posts, is_lap
from ringwalkers.paths import walkers_of
from ringwalkers.places import is_standing, nets_among, pairs_of
from ringwalkers.refusals import BadLap, BadLooks, BadPosts, NoPaces
from ringwalkers.rows import least_sums, ring_below


def need_looks(names, lap, posts, looks):
    if not is_lap(names, lap):
        raise BadLap(lap)
    if not are_posts(names, lap, posts):
        raise BadPosts(posts)
    if not is_list(looks):
        raise BadLooks(0)
    for index, thing in enumerate(looks):
        if not is_look(names, thing):
            raise BadLooks(index)


def is_look(names, thing):
    """Whether any object is a pair of an hour from 1 on and a stand."""
    if not is_list_of(2, thing):
        return False
    hour, stand = thing
    return is_times(hour) and is_standing(names, stand)


def room(path, lap, posts, looks, one, other):
    """By how much one's pace can be above other's, None if nothing bounds it."""
    names = walkers_of(path)
    need_looks(names, lap, posts, looks)
    need_walker(names, one)
    need_walker(names, other)
    if one == other:
        return 0
    return all_rooms(names, lap, posts, looks).get((one, other))


def all_rooms(names, lap, posts, looks):
    """The rooms of all pairs, none without looks."""
    rooms = {}
    for hour, stand in looks:
        nets = nets_among(names, stand)
        for one, other in pairs_of(names):
            found = room_by(lap, posts[one] - posts[other], hour, nets[one, other])
            rooms[one, other] = min(rooms.get((one, other), found), found)
    return rooms


def room_by(lap, lead, hour, times):
    """The room that one look lets, at which the net was so many times."""
    if times >= 0:
        return (lap * (lead // lap + 1 + times) - lead) // hour
    return -1 - (lap * (-lead // lap - times) + lead) // hour


def paces_for(path, lap, posts, looks):
    """The least paces that fit, None if none do."""
    names = walkers_of(path)
    need_looks(names, lap, posts, looks)
    rooms = all_rooms(names, lap, posts, looks)
    if ring_below(names, rooms) is not None:
        return None
    sums = least_sums(names, rooms)
    # Nobody's pace is below 0: so each one's is at least so much above each other one's least.
    return {name: max([0] + [-sums[pair] for pair in sums if pair[1] == name]) for name in names}


def pace_ring(path, lap, posts, looks):
    """Walkers whose rooms, round and round, are together below 0; None if paces fit."""
    names = walkers_of(path)
    need_looks(names, lap, posts, looks)
    return ring_below(names, all_rooms(names, lap, posts, looks))


def pace_span(path, lap, posts, looks, one, other):
    """The least and the most that one's pace is above other's in paces that fit; None where there is no bound."""
    names = walkers_of(path)
    need_looks(names, lap, posts, looks)
    need_walker(names, one)
    need_walker(names, other)
    sums = fitting_sums(names, all_rooms(names, lap, posts, looks))
    if one == other:
        return 0, 0
    least = -sums[other, one] if (other, one) in sums else None
    return least, sums.get((one, other))


def fitting_sums(names, rooms):
    """The least sums of rooms; NoPaces if no paces fit."""
    if ring_below(names, rooms) is not None:
        raise NoPaces()
    return least_sums(names, rooms)


def surely_faster(path, lap, posts, looks):
    """All pairs of whom the one is faster in all paces that fit."""
    names = walkers_of(path)
    need_looks(names, lap, posts, looks)
    sums = fitting_sums(names, all_rooms(names, lap, posts, looks))
    return [(one, other) for one, other in pairs_of(names) if (other, one) in sums and sums[other, one] < 0]

"""Orders and wishes: what is one, and stands that have the one and meet the others.

From a stand with an order all others with it are come to by whole laps: nets grow by the laps of one less those of
other. So a wish is met if other's laps are above one's by a step at most.
"""

from ringwalkers.kinds import is_integer, is_list, is_list_of, is_two_walkers
from ringwalkers.photographs import is_photograph, rests_in, turned_by
from ringwalkers.places import in_order, nets_among
from ringwalkers.refusals import BadOrder, BadWishes
from ringwalkers.rows import least_distances


def need_order(names, order):
    if not is_photograph(names, order):
        raise BadOrder(order)


def need_wishes(names, wishes):
    if not is_list(wishes):
        raise BadWishes(0)
    for index, thing in enumerate(wishes):
        if not is_wish(names, thing):
            raise BadWishes(index)


def is_wish(names, thing):
    """Whether any object is a triple of two unlike walkers and an integer."""
    if not is_list_of(3, thing):
        return False
    one, other, least = thing
    return is_two_walkers(names, (one, other)) and is_integer(least)


def places_in(names, order):
    """A stand that has the order, the same one with whomever the order begins."""
    return in_order(names, rests_in(turned_by(order, order.index(names[0]))))


def nets_in(names, order):
    """The nets of that stand."""
    return nets_among(names, places_in(names, order))


def wished_steps(nets, wishes):
    """By how many laps other may at most be moved farther than one, from a stand with these nets, by (other, one)."""
    steps = {}
    for one, other, least in wishes:
        step = nets[one, other] - least
        steps[other, one] = min(steps.get((other, one), step), step)
    return steps


def moved_by_laps(names, places, laps):
    """The stand to which whole laps lead; that all places together stay the same, each goes back as far."""
    back = sum([laps[name] for name in names])
    return {name: places[name] + len(names) * laps[name] - back for name in names}


def places_meeting(names, order, wishes):
    """A stand that has the order and meets the wishes, None if there is none."""
    places = places_in(names, order)
    laps = least_distances(names, wished_steps(nets_among(names, places), wishes))
    if laps is None:
        return None
    return moved_by_laps(names, places, laps)

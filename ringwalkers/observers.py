"""Observers who put their views together: what they know, and what they do not."""

from math import factorial

from ringwalkers.checks import need_stand, need_walker
from ringwalkers.counting import product_of
from ringwalkers.kinds import first_stranger, is_list, is_two_walkers
from ringwalkers.paths import walkers_of
from ringwalkers.places import ahead_of, nets_among, row_from
from ringwalkers.refusals import BadLot, BadPairs
from ringwalkers.views import view_of


def need_lot(names, lot):
    if not is_list(lot) or len(lot) == 0:
        raise BadLot(0)
    stranger = first_stranger(names, lot)
    if stranger is not None:
        raise BadLot(stranger)


def arcs(path, stand, lot):
    """Whom each observer has right ahead, up to the next observer."""
    names = walkers_of(path)
    need_stand(names, stand)
    need_lot(names, lot)
    return arcs_of(names, stand, lot)


def arcs_of(names, places, lot):
    found = {name: [] for name in names if name in lot}
    observer = lot[0]
    for name in row_from(names, places, observer):
        if name in found:
            observer = name
        else:
            found[observer].append(name)
    return found


def are_alike_for(path, stand, other_stand, lot):
    """Whether all observers have the same views in both stands."""
    names = walkers_of(path)
    need_stand(names, stand)
    need_stand(names, other_stand)
    need_lot(names, lot)
    return all([view_of(names, stand, walker) == view_of(names, other_stand, walker) for walker in lot])


def count_alike(path, stand, lot):
    """How many stands are alike for them to stand."""
    names = walkers_of(path)
    need_stand(names, stand)
    need_lot(names, lot)
    return product_of([factorial(len(arc)) for arc in arcs_of(names, stand, lot).values()])


def nets_known(path, stand, lot, one, other):
    """The nets of one and other in all stands that are alike for the observers."""
    names = walkers_of(path)
    need_stand(names, stand)
    need_lot(names, lot)
    need_walker(names, one)
    need_walker(names, other)
    if one == other:
        return [0]
    now = nets_among(names, stand)[one, other]
    for arc in arcs_of(names, stand, lot).values():
        if one in arc and other in arc:
            # Whoever stands earlier in the arc is behind, and would be ahead with a net 1 greater.
            return [now, now + 1] if arc.index(one) < arc.index(other) else [now - 1, now]
    return [now]


def seams_left(path, stand, lot):
    """Who is right behind whom, with no observer among both."""
    names = walkers_of(path)
    need_stand(names, stand)
    need_lot(names, lot)
    return seams_of(names, stand, lot)


def seams_of(names, places, lot):
    ahead = ahead_of(names, places)
    return [(one, ahead[one]) for one in names if one not in lot and ahead[one] not in lot]


def knows_all(path, stand, lot):
    """Whether the views of the observers tell the stand."""
    return count_alike(path, stand, lot) == 1


def tells_all(path, stand, lot, pairs):
    """Whether the views of the observers, and the nets of some pairs, tell the stand."""
    names = walkers_of(path)
    need_stand(names, stand)
    need_lot(names, lot)
    need_pairs(names, pairs)
    told = [tuple(pair) for pair in pairs]
    return all([(one, other) in told or (other, one) in told for one, other in seams_of(names, stand, lot)])


def need_pairs(names, pairs):
    if not is_list(pairs):
        raise BadPairs(0)
    for index, thing in enumerate(pairs):
        if not is_two_walkers(names, thing):
            raise BadPairs(index)


def fewest_observers(path, stand):
    """As few observers as can be whose views tell the stand."""
    names = walkers_of(path)
    need_stand(names, stand)
    # Every other one, going round: so each seam has an observer.
    lot = row_from(names, stand, names[0])[::2]
    return [name for name in names if name in lot]

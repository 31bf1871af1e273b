"""Net numbers: how many overtakings each made less how many each suffered."""

from ringwalkers.checks import need_nets, need_stand
from ringwalkers.paths import walkers_of
from ringwalkers.places import first_places, pairs_ahead


def nets_of(path, stand):
    names = walkers_of(path)
    need_stand(names, stand)
    return gained(names, stand)


def gained(names, places):
    """By how much each place is above that in the first stand."""
    first = first_places(names)
    return {name: places[name] - first[name] for name in names}


def stand_of_nets(path, nets):
    """The stand with these nets, None if there is none."""
    names = walkers_of(path)
    need_nets(names, nets)
    if first_net_clash(names, nets) is not None:
        return None
    return moved_on(names, nets)


def nets_clash(path, nets):
    """The first reason why no stand has these nets, None if one has them."""
    names = walkers_of(path)
    need_nets(names, nets)
    return first_net_clash(names, nets)


def moved_on(names, nets):
    """The places of the first stand, each with the net."""
    first = first_places(names)
    return {name: first[name] + nets[name] for name in names}


def first_net_clash(names, nets):
    total = sum([nets[name] for name in names])
    if total != 0:
        return "sum", total
    places = moved_on(names, nets)
    for one, other in pairs_ahead(names):
        if (places[one] - places[other]) % len(names) == 0:
            return "together", one, other
    return None

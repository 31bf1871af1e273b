"""Stands told by less than both lists: one walker said nothing, or some told this and others that."""

from ringwalkers.checks import need_nets
from ringwalkers.errors import BadPart
from ringwalkers.kinds import is_dict_but_one, is_list_of, is_number, is_walker
from ringwalkers.madenumbers import made_among, places_of_made, suffered_among
from ringwalkers.netnumbers import first_net_clash, gained, moved_on
from ringwalkers.paths import walkers_of
from ringwalkers.refusals import BadMade


def stand_without(path, part):
    """The stand in which all but one made, and suffered, so many; None if there is none."""
    names = walkers_of(path)
    need_part(names, part)
    if first_part_fault(names, part) is not None:
        return None
    return moved_on(names, nets_of_part(names, part))


def without_fault(path, part):
    """The first reason why there is no such stand, None if there is one."""
    names = walkers_of(path)
    need_part(names, part)
    return first_part_fault(names, part)


def need_part(names, part):
    if not is_dict_but_one(names, part, is_two_numbers):
        raise BadPart(part)


def is_two_numbers(thing):
    return is_list_of(2, thing) and is_number(thing[0]) and is_number(thing[1])


def nets_of_part(names, part):
    """Made less suffered of all; of the one who lacks 0 less all others together."""
    nets = {name: part[name][0] - part[name][1] for name in part}
    lacking = -sum(list(nets.values()))
    return {name: nets.get(name, lacking) for name in names}


def first_part_fault(names, part):
    nets = nets_of_part(names, part)
    clash = first_net_clash(names, nets)
    if clash is not None:
        return clash
    places = moved_on(names, nets)
    made = made_among(names, places)
    suffered = suffered_among(names, places)
    for name in names:
        if name in part and (made[name], suffered[name]) != tuple(part[name]):
            return "numbers", name
    return None


def stand_of_mixed(path, made, nets):
    """The stand in which some made so many, and all others have these nets; None if there is none."""
    names = walkers_of(path)
    need_made_of_some(names, made)
    others = [name for name in names if name not in made]
    need_nets(others, nets)
    numbers = {name: made.get(name, 0) for name in names}
    places = places_of_made(names, numbers)
    while places is not None:
        now = gained(names, places)
        below = [name for name in others if now[name] < nets[name]]
        if not below:
            return places if all([now[name] == nets[name] for name in others]) else None
        for name in below:
            numbers[name] += sure_step(len(names), nets[name] - now[name])
        places = places_of_made(names, numbers)
    return None


def sure_step(many, lacking):
    """How many more somebody must have made, at least, whose net is so far below the told one.

    With real numbers in the place of whole ones each one made would let a net grow by many / 2 at most; that nets are
    rounded makes less than 4 * many * many of difference. So what is right is not passed by; near it goes one by one.
    """
    return max(2 * (lacking - 4 * many * many) // many, 1)


def need_made_of_some(names, made):
    if not isinstance(made, dict) or not all([is_walker(names, name) and is_number(made[name]) for name in made]):
        raise BadMade(made)

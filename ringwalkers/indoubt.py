"""Numbers told by the walkers, one of which may be wrong: what could be right."""

from ringwalkers.checks import need_nets, need_numbers
from ringwalkers.madenumbers import made_among, need_others, places_of_made, places_of_suffered, suffered_among
from ringwalkers.netnumbers import first_net_clash
from ringwalkers.paths import walkers_of
from ringwalkers.places import add_nets, first_places, pairs_ahead
from ringwalkers.rooms import one_if_later
from ringwalkers.tables import first_clash, need_table


def wrong_numbers(path, numbers, others):
    """Each number made, and suffered, that alone can be wrong, with the right one."""
    names = walkers_of(path)
    need_numbers(names, numbers)
    need_others(names, others)
    # Either list alone tells the stand, and so what the other one should be.
    by_others = places_of_suffered(names, others)
    by_numbers = places_of_made(names, numbers)
    made = [] if by_others is None else one_wrong("made", names, numbers, made_among(names, by_others))
    suffered = [] if by_numbers is None else one_wrong("suffered", names, others, suffered_among(names, by_numbers))
    return made + suffered


def one_wrong(word, names, told, right):
    """The one told number that is not the right one, [] if there is none or are more."""
    unlike = [name for name in names if told[name] != right[name]]
    return [(word, name, right[name]) for name in unlike] if len(unlike) == 1 else []


def wrong_nets(path, nets):
    """Each net that alone can be wrong, with the right one."""
    names = walkers_of(path)
    need_nets(names, nets)
    if first_net_clash(names, nets) is None:
        return []
    total = sum([nets[name] for name in names])
    found = []
    for name in names:
        righted = dict(nets)
        righted[name] -= total
        if first_net_clash(names, righted) is None:
            found.append((name, righted[name]))
    return found


def wrong_pairs(path, table):
    """Each pair that alone can be wrong in a table, with each right net."""
    names = walkers_of(path)
    need_table(names, table)
    if first_clash(names, table) is None:
        return []
    found = []
    for one, other in pairs_ahead(names):
        for right in rights_left(names, table, one, other):
            righted = {pair: table[pair] for pair in table}
            add_nets(righted, one, {other: right})
            if first_clash(names, righted) is None:
                found.append((one, other, right))
    return found


def rights_left(names, nets, one, other):
    """The nets of one and other, one ahead of other, that a third walker leaves; with two walkers none are told."""
    first = first_places(names)
    thirds = [name for name in names if name != one and name != other]
    if not thirds:
        return []
    third = thirds[0]
    low = nets[one, third] + nets[third, other]
    # As laps rounded down nets are 1 less of whoever stands ahead; such laps by way of the third are all, or 1 less.
    low += one_if_later(first, other, one) - one_if_later(first, third, one) - one_if_later(first, other, third)
    return [low, low + 1]

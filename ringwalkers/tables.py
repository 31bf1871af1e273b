"""Tables: the nets of all pairs; fewer walkers and one more."""

from ringwalkers.checks import need_nets, need_stand, need_walker
from ringwalkers.errors import BadName, BadSome, BadTable
from ringwalkers.kinds import first_stranger, is_dict_of, is_integer, is_list, is_name
from ringwalkers.paths import Path, walkers_of
from ringwalkers.places import add_nets, nets_among, pairs_ahead, pairs_of, placed_by


def table(path, stand):
    names = walkers_of(path)
    need_stand(names, stand)
    return nets_among(names, stand)


def stand_of_table(path, table):
    """The stand with this table, None if there is none."""
    names = walkers_of(path)
    need_table(names, table)
    if first_clash(names, table) is not None:
        return None
    return placed_by(names, table)


def table_clash(path, table):
    """The first reason why no stand has this table, None if one has it."""
    names = walkers_of(path)
    need_table(names, table)
    return first_clash(names, table)


def need_table(names, thing):
    if not is_dict_of(pairs_of(names), thing, is_integer):
        raise BadTable(thing)


def first_clash(names, nets):
    for one, other in pairs_ahead(names):
        if nets[one, other] + nets[other, one] != 0:
            return "turned", one, other
    for index, x in enumerate(names):
        for y, z in pairs_ahead(names[index + 1:]):
            if not are_nets_of_three(nets, x, y, z):
                return "three", x, y, z
    return None


def are_nets_of_three(nets, x, y, z):
    """Whether some stand has these nets of three walkers, who stand in this order in the path's."""
    return 0 <= nets[x, y] + nets[y, z] - nets[x, z] <= 1


def overtook(path, stand, walker):
    """All whom a walker overtook."""
    names = walkers_of(path)
    need_stand(names, stand)
    need_walker(names, walker)
    nets = nets_among(names, stand)
    return [other for other in names if other != walker and nets[walker, other] > 0]


def overtaken_by(path, stand, walker):
    """All who overtook a walker."""
    names = walkers_of(path)
    need_stand(names, stand)
    need_walker(names, walker)
    nets = nets_among(names, stand)
    return [other for other in names if other != walker and nets[other, walker] > 0]


def in_all(path, stand):
    """How many overtakings there are."""
    return sum([max(each, 0) for each in table(path, stand).values()])


def of_some(path, stand, some):
    """The path of some walkers, and its stand with the same nets."""
    names = walkers_of(path)
    need_stand(names, stand)
    need_some(names, some)
    chosen = [name for name in names if name in some]
    return Path(chosen), placed_by(chosen, nets_among(names, stand))


def need_some(names, some):
    if not is_list(some):
        raise BadSome(0)
    stranger = first_stranger(names, some)
    if stranger is not None:
        raise BadSome(stranger)
    if len(some) < 2:
        raise BadSome(len(some))


def with_one_more(path, stand, name, nets):
    """The path with one more walker at its end, and the stand by which the new one has these nets; None without one."""
    names = walkers_of(path)
    need_stand(names, stand)
    need_new_name(names, name)
    need_nets(names, nets)
    if first_unlike_two(names, stand, nets) is not None:
        return None
    return with_newcomer(names, stand, name, nets)


def with_newcomer(names, places, name, nets):
    """The path with one more walker at its end, and the stand by which the new one has these nets, which can be."""
    among = nets_among(names, places)
    add_nets(among, name, nets)
    return Path(names + [name]), placed_by(names + [name], among)


def one_more_clash(path, stand, name, nets):
    """The first two walkers whom one more cannot have overtaken so often, None if there are none."""
    names = walkers_of(path)
    need_stand(names, stand)
    need_new_name(names, name)
    need_nets(names, nets)
    return first_unlike_two(names, stand, nets)


def need_new_name(names, name):
    if not is_name(name) or name in names:
        raise BadName(name)


def first_unlike_two(names, places, nets):
    among = nets_among(names, places)
    for x, y in pairs_ahead(names):
        if not 0 <= nets[x] - nets[y] + among[x, y] <= 1:
            return x, y
    return None

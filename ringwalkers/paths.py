"""Paths, their stands, and who is right behind whom."""

from ringwalkers.checks import need_stand, need_walker
from ringwalkers.errors import BadPath, BadWalkers, NotBehind
from ringwalkers.kinds import is_list, is_name
from ringwalkers.places import ahead_of, change_places, first_places, in_order, is_right_behind, is_standing, row_from


class Path:
    """A round path: its walkers in the order in which each is right behind the next one at first."""

    def __init__(self, walkers):
        if not is_list(walkers):
            raise BadWalkers(0)
        met = {}
        for index, name in enumerate(walkers):
            if not is_name(name) or name in met:
                raise BadWalkers(index)
            met[name] = True
        if len(met) < 2:
            raise BadWalkers(len(met))
        self._names = tuple(met)

    def walkers(self):
        return list(self._names)

    def __eq__(self, other):
        return isinstance(other, Path) and self._names == other._names


def walkers_of(path):
    """The names of a path's walkers, in its order; BadPath for what is no Path."""
    if not isinstance(path, Path):
        raise BadPath(path)
    return path.walkers()


def is_stand(path, thing):
    return is_standing(walkers_of(path), thing)


def first_stand(path):
    return first_places(walkers_of(path))


def right_ahead(path, stand, walker):
    names = walkers_of(path)
    need_stand(names, stand)
    need_walker(names, walker)
    return ahead_of(names, stand)[walker]


def going_round(path, stand, walker):
    """All walkers, each right behind the next one, from the walker on."""
    names = walkers_of(path)
    need_stand(names, stand)
    need_walker(names, walker)
    return row_from(names, stand, walker)


def overtaken(path, stand, one, other):
    """The stand behind it, if one overtakes other."""
    names = walkers_of(path)
    need_stand(names, stand)
    need_walker(names, one)
    need_walker(names, other)
    if not is_right_behind(names, stand, one, other):
        raise NotBehind(one, other)
    places = in_order(names, stand)
    change_places(places, one, other)
    return places


def net(path, stand, one, other):
    """How often one overtook other less how often other overtook one, since the first stand."""
    names = walkers_of(path)
    need_stand(names, stand)
    need_walker(names, one)
    need_walker(names, other)
    many = len(names)
    return (stand[one] - stand[other]) // many - (names.index(one) - names.index(other)) // many


def turned(path, stand):
    """The path and the stand as they would be if all walked backward."""
    names = walkers_of(path)
    need_stand(names, stand)
    back = names[::-1]
    return Path(back), {name: len(names) - 1 - stand[name] for name in back}

"""Walkers in the place of one, one in the place of several, and another one first in the path's order."""

from ringwalkers.checks import need_stand, need_walker
from ringwalkers.kinds import is_dict_of, is_list, is_name
from ringwalkers.paths import Path, walkers_of
from ringwalkers.places import nets_among, pairs_of, placed_by
from ringwalkers.refusals import BadNames, BadPieces


def spread(path, stand, names):
    """The path and the stand of teams, each walking in the place of one walker."""
    leaders = walkers_of(path)
    need_stand(leaders, stand)
    need_names(leaders, names)
    leader_of = {name: leader for leader in leaders for name in names[leader]}
    nets = nets_among(leaders, stand)
    row = list(leader_of)
    among = {}
    for one, other in pairs_of(row):
        among[one, other] = nets.get((leader_of[one], leader_of[other]), 0)
    return Path(row), placed_by(row, among)


def need_names(leaders, names):
    if not is_dict_of(leaders, names, is_team):
        raise BadNames(names)
    row = [name for leader in leaders for name in names[leader]]
    if len({name for name in row}) < len(row):
        raise BadNames(names)


def is_team(thing):
    """Whether any object is a list of one or more names."""
    return is_list(thing) and len(thing) > 0 and all([is_name(each) for each in thing])


def gathered(path, stand, pieces):
    """The path and the stand of the first ones of all pieces, for whom the pieces walk as teams; None without one."""
    names = walkers_of(path)
    need_stand(names, stand)
    need_pieces(names, pieces)
    if first_team_clash(names, stand, pieces) is not None:
        return None
    leaders = [piece[0] for piece in pieces]
    return Path(leaders), placed_by(leaders, nets_among(names, stand))


def team_clash(path, stand, pieces):
    """The first reason why the pieces do not walk as teams, None if they do."""
    names = walkers_of(path)
    need_stand(names, stand)
    need_pieces(names, pieces)
    return first_team_clash(names, stand, pieces)


def need_pieces(names, pieces):
    if not is_list(pieces):
        raise BadPieces(0)
    left = names
    for index, thing in enumerate(pieces):
        if not is_list(thing) or len(thing) == 0 or list(thing) != left[:len(thing)]:
            raise BadPieces(index)
        left = left[len(thing):]
    if len(pieces) < 2 or left:
        raise BadPieces(len(pieces))


def first_team_clash(names, places, pieces):
    nets = nets_among(names, places)
    for piece in pieces:
        for one, other in zip(piece, piece[1:]):
            if nets[one, other] != 0:
                return "met", one, other
            for third in names:
                if third != one and third != other and nets[one, third] != nets[other, third]:
                    return "unlike", one, other, third
    return None


def begun_with(path, stand, walker):
    """The path in whose order a walker is first, and the stand with the same nets."""
    names = walkers_of(path)
    need_stand(names, stand)
    need_walker(names, walker)
    index = names.index(walker)
    row = names[index:] + names[:index]
    return Path(row), placed_by(row, nets_among(names, stand))

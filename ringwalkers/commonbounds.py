"""How far the nets of some stands hold back what is earlier than all, and force what is later than all."""

from ringwalkers.errors import BadStands, NoCommon
from ringwalkers.kinds import is_list
from ringwalkers.places import is_standing, nets_among
from ringwalkers.rows import ring_below


def need_stands(names, stands):
    if not is_list(stands) or len(stands) == 0:
        raise BadStands(0)
    for index, thing in enumerate(stands):
        if not is_standing(names, thing):
            raise BadStands(index)


def each_nets(names, stands):
    return [nets_among(names, stand) for stand in stands]


def held_most(nets):
    """The most that each one overtook each other one in all of these stands."""
    return {pair: max(min([each[pair] for each in nets]), 0) for pair in nets[0]}


def forced_most(nets):
    """The greatest net of other and one, for all of whom other overtook one in some of these stands."""
    least = {pair: min([each[pair] for each in nets]) for pair in nets[0]}
    return {pair: least[pair] for pair in least if least[pair] < 0}


def first_ring(names, nets):
    """A ring of those who overtook one another, None if there is none."""
    done = {pair: -1 for pair in nets[0] if max([each[pair] for each in nets]) > 0}
    ring = ring_below(names, done)
    if ring is None:
        return None
    return [(one, first_index(nets, one, other)) for one, other in zip(ring, ring[1:] + ring[:1])]


def first_index(nets, one, other):
    """The first of these stands in which one overtook other."""
    return [index for index, each in enumerate(nets) if each[one, other] > 0][0]


def need_no_ring(names, nets):
    ring = first_ring(names, nets)
    if ring is not None:
        raise NoCommon(ring)

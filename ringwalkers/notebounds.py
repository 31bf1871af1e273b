"""Notes that are passed: which nets they leave, whether some stand shows them, and the least and the last that does."""

from ringwalkers.errors import BadNotes
from ringwalkers.kinds import is_dict_of, is_number
from ringwalkers.places import pairs_ahead, pairs_of, placed_by
from ringwalkers.rooms import greatest_nets


def need_notes(names, notes, most):
    if not is_noting(names, notes, most):
        raise BadNotes(notes)


def need_shown_notes(names, notes, most):
    """BadNotes also if no stand shows them."""
    if not is_noting(names, notes, most) or first_notes_clash(names, notes, most) is not None:
        raise BadNotes(notes)


def is_noting(names, thing, most):
    """Whether any object is a dict from just all pairs to numbers up to most."""
    return is_dict_of(pairs_of(names), thing, lambda number: is_number(number) and number <= most)


def first_notes_clash(names, notes, most):
    """The first reason why no stand shows the notes, None if some stand does."""
    for one, other in pairs_ahead(names):
        if notes[one, other] > 0 and notes[other, one] > 0:
            return "both", one, other
    nets = nets_noted(notes)
    for index, x in enumerate(names):
        for y, z in pairs_ahead(names[index + 1:]):
            if not may_be_of_three(nets, most, x, y, z):
                return "three", x, y, z
    return None


def nets_noted(notes):
    """The nets by which one noted other, or the other way about: the very ones, but for those of most."""
    return {(one, other): notes[one, other] - notes[other, one] for one, other in notes}


def may_be_of_three(nets, most, x, y, z):
    """Whether some stand has such nets of three walkers, who stand in this order in the path's."""
    ends = [net_ends(nets[x, y], most), net_ends(nets[y, z], most), net_ends(nets[z, x], most)]
    lows = [low for low, _ in ends]
    highs = [high for _, high in ends]
    # Nets of x and y, of y and z, less that of x and z, are together 0 or 1.
    return (None in lows or sum(lows) <= 1) and (None in highs or sum(highs) >= 0)


def net_ends(net, most):
    """The least and the greatest net that is noted as such a one; None where there is no end."""
    return (None if net == -most else net), (None if net == most else net)


def roof_nets(notes, most):
    """The greatest net of each pair that the notes of the pair alone let, of those that have one."""
    nets = nets_noted(notes)
    return {pair: nets[pair] for pair in nets if nets[pair] < most}


def last_nets(names, notes, most):
    """The greatest net of each pair in stands that show the notes, of those that have one."""
    return greatest_nets(names, roof_nets(notes, most))


def least_showing(names, notes, most):
    """The least stand that shows the notes."""
    greatest = last_nets(names, notes, most)
    nets = {}
    for one, other in notes:
        # Who overtook other has a least net: 0 less the greatest one of the turned pair.
        nets[one, other] = -greatest[other, one] if notes[one, other] > 0 else greatest[one, other]
    return placed_by(names, nets)


def last_showing(names, notes, most):
    """The last stand that shows the notes, None if there is none."""
    greatest = last_nets(names, notes, most)
    if len(greatest) < len(notes):
        return None
    nets = {}
    for one, other in notes:
        nets[one, other] = greatest[one, other] if notes[one, other] > 0 else -greatest[other, one]
    return placed_by(names, nets)

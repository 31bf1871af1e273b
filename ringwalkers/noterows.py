"""From notes to notes, one overtaking at a time."""

from ringwalkers.checks import need_walker
from ringwalkers.notebounds import may_be_of_three, need_shown_notes, nets_noted, roof_nets
from ringwalkers.notings import need_most
from ringwalkers.paths import walkers_of
from ringwalkers.places import pairs_ahead, pairs_of
from ringwalkers.rooms import stand_right_behind


def fewest_changes(path, notes, later, most):
    """How many changes by one lead from notes to later ones."""
    names = walkers_of(path)
    need_both(names, notes, later, most)
    begin = nets_noted(notes)
    end = nets_noted(later)
    return sum([abs(begin[pair] - end[pair]) for pair in pairs_ahead(names)])


def need_both(names, notes, later, most):
    need_most(most)
    need_shown_notes(names, notes, most)
    need_shown_notes(names, later, most)


def row_of_notes(path, notes, later, most):
    """Notes from notes to later ones, each but the first one change off the one ahead of it."""
    names = walkers_of(path)
    need_both(names, notes, later, most)
    nets = nets_noted(notes)
    end = nets_noted(later)
    row = [notes_by(names, nets)]
    changes = [pair for pair in pairs_of(names) if nets[pair] < end[pair]]
    while changes:
        one, other = first_to_rise(names, nets, most, changes)
        nets[one, other] += 1
        nets[other, one] -= 1
        row.append(notes_by(names, nets))
        changes = [pair for pair in changes if nets[pair] < end[pair]]
    return row


def first_to_rise(names, nets, most, changes):
    """The first of some pairs whose noted net may be one more; on a straight way some bound is met first."""
    for pair in changes:
        if may_rise(names, nets, most, pair):
            return pair
    return None


def notes_by(names, nets):
    """Notes of nets none of which is above most."""
    return {pair: max(nets[pair], 0) for pair in pairs_of(names)}


def may_rise(names, nets, most, pair):
    """Whether noted nets, the pair's one more, are some stand's, too."""
    one, other = pair
    if nets[one, other] == most:
        return False
    risen = {each: nets[each] for each in nets}
    risen[one, other] += 1
    risen[other, one] -= 1
    rank = {name: index for index, name in enumerate(names)}
    for third in names:
        if third != one and third != other:
            x, y, z = sorted([one, other, third], key=lambda name: rank[name])
            if not may_be_of_three(risen, most, x, y, z):
                return False
    return True


def next_changes(path, notes, most):
    """All pairs by whose next overtaking, in some stand that shows the notes, these change."""
    names = walkers_of(path)
    need_most(most)
    need_shown_notes(names, notes, most)
    nets = nets_noted(notes)
    return [pair for pair in pairs_of(names) if may_rise(names, nets, most, pair)]


def change_shown(path, notes, most, one, other):
    """A stand that shows the notes, in which one is right behind other, and by one's overtaking they change."""
    names = walkers_of(path)
    need_most(most)
    need_shown_notes(names, notes, most)
    need_walker(names, one)
    need_walker(names, other)
    nets = nets_noted(notes)
    if one == other or not may_rise(names, nets, most, (one, other)):
        return None
    return stand_right_behind(names, roof_nets(notes, most), one, other)

"""Which stands show notes: a clash, or all of them, up to a last one or without an end."""

from ringwalkers.checks import need_walker
from ringwalkers.counting import power
from ringwalkers.notebounds import first_notes_clash, is_noting, last_nets, last_showing, least_showing
from ringwalkers.notebounds import need_notes, need_shown_notes
from ringwalkers.notings import need_most
from ringwalkers.paths import walkers_of
from ringwalkers.towards import stands_on_the_way


def are_notes(path, thing, most):
    """Whether any object is notes that some stand shows."""
    names = walkers_of(path)
    need_most(most)
    return is_noting(names, thing, most) and first_notes_clash(names, thing, most) is None


def notes_clash(path, notes, most):
    """The first reason why no stand shows the notes, None if some stand does."""
    names = walkers_of(path)
    need_most(most)
    need_notes(names, notes, most)
    return first_notes_clash(names, notes, most)


def last_stand(path, notes, most):
    """The last stand that shows the notes, None if there is none."""
    names = walkers_of(path)
    need_most(most)
    need_shown_notes(names, notes, most)
    return last_showing(names, notes, most)


def free_lot(path, notes, most):
    """The shortest list of walkers who noted all others most times, None if there is a last stand."""
    found = groups(path, notes, most)
    return found[0] if len(found) > 1 else None


def groups(path, notes, most):
    """Who hang together, each former group having noted each latter one most times."""
    names = walkers_of(path)
    need_most(most)
    need_shown_notes(names, notes, most)
    found = []
    for name in names:
        if not any([name in group for group in found]):
            found.append(hanging_with(names, notes, most, name))
    # Whoever is in a former group noted more others most times than anybody in a latter one.
    return sorted(found, key=lambda group: -noted_outside(names, notes, most, group))


def hanging_with(names, notes, most, name):
    """All who hang together with a walker."""
    met = {name: True}
    queue = [name]
    while queue:
        here = queue.pop()
        for there in names:
            if there not in met and notes[here, there] < most and notes[there, here] < most:
                met[there] = True
                queue.append(there)
    return [each for each in names if each in met]


def noted_outside(names, notes, most, group):
    """How many of the others the first one of a group noted most times."""
    return len([other for other in names if other not in group and notes[group[0], other] == most])


def count_ended(path, most):
    """How many notes that some stand shows have a last stand."""
    many = len(walkers_of(path))
    need_most(most)
    return power(most * many - 1, many - 1)


def net_span(path, notes, most, one, other):
    """The least and the greatest net of one and other in stands that show the notes; None where there is no end."""
    names = walkers_of(path)
    need_most(most)
    need_shown_notes(names, notes, most)
    need_walker(names, one)
    need_walker(names, other)
    if one == other:
        return 0, 0
    greatest = last_nets(names, notes, most)
    least = -greatest[other, one] if (other, one) in greatest else None
    return least, greatest.get((one, other))


def stands_showing(path, notes, most):
    """All stands that show the notes, None if there is no end of them."""
    names = walkers_of(path)
    need_most(most)
    need_shown_notes(names, notes, most)
    last = last_showing(names, notes, most)
    if last is None:
        return None
    return stands_on_the_way(names, least_showing(names, notes, most), last)

"""What one walker sees: own overtakings, and who walks behind whom."""

from math import factorial

from ringwalkers.checks import need_stand, need_walker
from ringwalkers.kinds import first_stranger, is_dict_of, is_integer, is_list
from ringwalkers.paths import walkers_of
from ringwalkers.places import first_places, in_order, nets_among
from ringwalkers.refusals import BadRow, BadView
from ringwalkers.rooms import one_if_later


def view(path, stand, walker):
    """The walker's nets over all others."""
    names = walkers_of(path)
    need_stand(names, stand)
    need_walker(names, walker)
    return view_of(names, stand, walker)


def view_of(names, places, walker):
    nets = nets_among(names, places)
    return {other: nets[walker, other] for other in names if other != walker}


def place_by(path, walker, view):
    """The walker's place in all stands with this view."""
    names = walkers_of(path)
    need_walker(names, walker)
    need_view(names, walker, view)
    return place_seen(names, walker, view)


def place_seen(names, walker, view):
    return names.index(walker) + sum(list(view.values()))


def need_view(names, walker, view):
    if not is_dict_of([name for name in names if name != walker], view, is_integer):
        raise BadView(view)


def count_of_view(path, walker, view):
    """How many stands have this view."""
    names = walkers_of(path)
    need_walker(names, walker)
    need_view(names, walker, view)
    return factorial(len(names) - 1)


def stand_seen(path, walker, view, row):
    """The stand with this view in which the others walk, from the walker on, as in the row."""
    names = walkers_of(path)
    need_walker(names, walker)
    need_view(names, walker, view)
    need_row([name for name in names if name != walker], row)
    many = len(names)
    first = first_places(names)
    places = {walker: place_seen(names, walker, view)}
    for index, other in enumerate(row):
        # Each one of the row is so many places ahead of the walker, but for whole laps.
        laps = view[other] - one_if_later(first, other, walker)
        places[other] = places[walker] + index + 1 - many * (laps + 1)
    return in_order(names, places)


def need_row(others, row):
    if not is_list(row):
        raise BadRow(0)
    stranger = first_stranger(others, row)
    if stranger is not None:
        raise BadRow(stranger)
    if len(row) < len(others):
        raise BadRow(len(row))

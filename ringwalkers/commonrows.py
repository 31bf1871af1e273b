"""Rows that show how far some stands hold back, and force on, their common ones."""

from ringwalkers.checks import need_unlike_walkers
from ringwalkers.commonbounds import each_nets, forced_most, held_most, need_no_ring, need_stands
from ringwalkers.kinds import first_stranger, is_list
from ringwalkers.paths import walkers_of
from ringwalkers.rooms import rooms_of
from ringwalkers.rows import least_row, sum_of_row


def holding_row(path, stands, one, other):
    """A row from one to other whose LEFT together is the least."""
    names = walkers_of(path)
    need_ends(names, stands, one, other)
    return least_row(names, left_of(names, stands), one, other)


def is_holding_row(path, stands, one, other, thing):
    """Whether any object is such a row."""
    names = walkers_of(path)
    need_ends(names, stands, one, other)
    return is_least_row(names, left_of(names, stands), one, other, thing)


def forcing_row(path, stands, one, other):
    """A row from one to other whose DONE together is the greatest, None if none leads there."""
    names = walkers_of(path)
    need_ends(names, stands, one, other)
    need_no_ring(names, each_nets(names, stands))
    return least_row(names, less_done(names, stands), one, other)


def is_forcing_row(path, stands, one, other, thing):
    """Whether any object is such a row."""
    names = walkers_of(path)
    need_ends(names, stands, one, other)
    need_no_ring(names, each_nets(names, stands))
    return is_least_row(names, less_done(names, stands), one, other, thing)


def need_ends(names, stands, one, other):
    need_stands(names, stands)
    need_unlike_walkers(names, one, other)


def left_of(names, stands):
    return rooms_of(names, held_most(each_nets(names, stands)))


def less_done(names, stands):
    """0 less DONE of each pair that has it: so what is greatest together is the least here."""
    rooms = rooms_of(names, forced_most(each_nets(names, stands)))
    return {(one, other): rooms[other, one] for other, one in rooms}


def is_least_row(names, steps, one, other, thing):
    if not is_list(thing) or first_stranger(names, thing) is not None:
        return False
    if len(thing) < 2 or thing[0] != one or thing[-1] != other:
        return False
    added = sum_of_row(steps, thing)
    return added is not None and added == sum_of_row(steps, least_row(names, steps, one, other))

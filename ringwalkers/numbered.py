"""Stands with one total, numbered by the lists of their numbers made, and drawn by number."""

from ringwalkers.checks import need_number_below, need_stand, need_total
from ringwalkers.choosers import need_chooser
from ringwalkers.counted import lists_with_zero
from ringwalkers.counting import choose
from ringwalkers.madenumbers import made_among, places_of_made
from ringwalkers.paths import walkers_of


def stand_at(path, total, number):
    """The stand with this number among those with a total."""
    names = walkers_of(path)
    need_total(total)
    need_number_below(lists_with_zero(len(names), total), number)
    return numbered_places(names, total, number)


def stand_number(path, stand):
    """The number of a stand among those with its own total."""
    names = walkers_of(path)
    need_stand(names, stand)
    made = made_among(names, stand)
    left = sum([made[name] for name in names])
    zero = False
    number = 0
    for index, name in enumerate(names):
        number += lists_below(len(names) - index - 1, left, made[name], zero)
        left -= made[name]
        zero = zero or made[name] == 0
    return number


def drawn_stand(path, total, chooser):
    """The stand with the number that the chooser tells."""
    names = walkers_of(path)
    need_total(total)
    need_chooser(chooser)
    many = lists_with_zero(len(names), total)
    number = chooser(many)
    need_number_below(many, number)
    return numbered_places(names, total, number)


def numbered_places(names, total, number):
    made = {}
    left = total
    zero = False
    for index, name in enumerate(names):
        others = len(names) - index - 1
        made[name] = first_number(others, left, number, zero)
        number -= lists_below(others, left, made[name], zero)
        left -= made[name]
        zero = zero or made[name] == 0
    return places_of_made(names, made)


def first_number(others, left, number, zero):
    """With what the list with this number begins: halving, as what is left may be great."""
    low = 0
    high = left
    while low < high:
        mid = (low + high + 1) // 2
        if lists_below(others, left, mid, zero) <= number:
            low = mid
        else:
            high = mid - 1
    return low


def lists_below(others, left, bound, zero):
    """How many lists of one number and so many others, with the sum left, begin with a number below the bound.

    A 0 must be among the numbers, unless there was one ahead of them.
    """
    if bound == 0:
        return 0
    lists = choose(left + others, others) - choose(left - bound + others, others)
    if zero:
        return lists
    # Less the lists of numbers from 1 on.
    return lists - choose(left - 1, others) + choose(left - bound, others)

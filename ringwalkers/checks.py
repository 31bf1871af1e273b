"""The errors of parameters that several points show, raised for what they are not."""

from ringwalkers.errors import BadNets, BadNumber, BadNumbers, BadStand, BadTimes, BadTotal, NoWalker, SameWalker
from ringwalkers.kinds import is_dict_of, is_integer, is_number, is_walker
from ringwalkers.places import is_standing


def need_stand(names, stand):
    if not is_standing(names, stand):
        raise BadStand(stand)


def need_walker(names, walker):
    if not is_walker(names, walker):
        raise NoWalker(walker)


def need_unlike_walkers(names, one, other):
    need_walker(names, one)
    need_walker(names, other)
    if one == other:
        raise SameWalker(one)


def need_nets(names, nets):
    if not is_dict_of(names, nets, is_integer):
        raise BadNets(nets)


def need_numbers(names, numbers):
    if not is_dict_of(names, numbers, is_number):
        raise BadNumbers(numbers)


def need_times(times):
    if not is_number(times):
        raise BadTimes(times)


def need_total(total):
    if not is_number(total):
        raise BadTotal(total)


def need_number(number):
    if not is_number(number):
        raise BadNumber(number)


def need_number_below(many, number):
    if not is_number(number) or number >= many:
        raise BadNumber(number)

"""Stands counted by how many overtakings they have in all."""

from ringwalkers.checks import need_number, need_total
from ringwalkers.counting import choose, fraction
from ringwalkers.paths import walkers_of


def count_stands(path, total):
    """How many stands have this total."""
    names = walkers_of(path)
    need_total(total)
    return lists_with_zero(len(names), total)


def lists_with_zero(many, total):
    """How many lists of so many numbers, with a 0 among them, have a sum; none have one below 0."""
    return choose(total + many - 1, many - 1) - choose(total - 1, many - 1)


def count_up_to(path, total):
    """How many stands have this total or less."""
    many = len(walkers_of(path))
    need_total(total)
    return choose(total + many, many) - choose(total, many)


def count_idle(path, total, idle):
    """In how many stands with this total just so many overtook nobody."""
    many = len(walkers_of(path))
    need_total(total)
    need_number(idle)
    return lists_with_zeros(many, total, idle)


def lists_with_zeros(many, total, idle):
    if total == 0:
        return 1 if idle == many else 0
    if not 1 <= idle < many:
        return 0
    return choose(many, idle) * choose(total - 1, many - idle - 1)


def mean_idle(path, total):
    """How many overtook nobody, on the average over the stands with this total."""
    many = len(walkers_of(path))
    need_total(total)
    idle_ones = sum([idle * lists_with_zeros(many, total, idle) for idle in range(1, many + 1)])
    return fraction(idle_ones, lists_with_zero(many, total))


def chance_made(path, total, number):
    """The share of stands with this total in which a walker overtook just so often."""
    many = len(walkers_of(path))
    need_total(total)
    need_number(number)
    return share_made(many, total, number)


def share_made(many, total, number):
    left = total - number
    if number == 0:
        # The walker's own 0 is enough: the others may have any numbers.
        lists = choose(left + many - 2, many - 2)
    else:
        lists = lists_with_zero(many - 1, left)
    return fraction(lists, lists_with_zero(many, total))


def chances_made(path, total):
    """All numbers that a walker can have made in stands with this total, with their shares."""
    many = len(walkers_of(path))
    need_total(total)
    shares = {number: share_made(many, total, number) for number in range(total + 1)}
    return {number: share for number, share in shares.items() if share[0] > 0}

"""Overtakings still to make: whoever has more left than the one right ahead overtakes."""

from ringwalkers.checks import need_numbers, need_stand, need_walker
from ringwalkers.errors import BadLeft, NotBehind
from ringwalkers.kinds import is_dict_of, is_list, is_number
from ringwalkers.madenumbers import has_zero, need_made, places_of_made
from ringwalkers.paths import walkers_of
from ringwalkers.places import ahead_of, change_places, first_places, in_order, is_right_behind, nets_among
from ringwalkers.runs import goes_one_way, walk


def with_more(path, stand, left):
    """All who have more left than the one right ahead of them."""
    names = walkers_of(path)
    need_stand(names, stand)
    if not is_dict_of(names, left, is_number):
        raise BadLeft(left)
    return [one for one, _ in pairs_with_more(names, stand, left)]


def pairs_with_more(names, places, left):
    """All who have more left than the one right ahead of them, each with that one."""
    ahead = ahead_of(names, places)
    return [(name, ahead[name]) for name in names if left[name] > left[ahead[name]]]


def made_run(path, numbers):
    """The run by which these numbers are made if the first one with more left goes each time; None if there is none."""
    names = walkers_of(path)
    need_numbers(names, numbers)
    if not has_zero(numbers):
        return None
    left = dict(numbers)
    places = first_places(names)
    run = []
    while max(list(left.values())) > 0:
        one, other = pairs_with_more(names, places, left)[0]
        change_places(places, one, other)
        left[one] -= 1
        run.append((one, other))
    return run


def is_made_run(path, numbers, thing):
    """Whether any object is a one-way run from the first stand by which these numbers are made."""
    names = walkers_of(path)
    need_numbers(names, numbers)
    if not is_list(thing) or walk(names, first_places(names), thing) is not None:
        return False
    made = {name: 0 for name in names}
    for one, _ in thing:
        made[one] += 1
    return made == in_order(names, numbers) and goes_one_way(thing)


def numbers_behind(path, numbers, one, other):
    """The numbers made, if one overtakes other in the stand of these numbers."""
    names = walkers_of(path)
    need_made(names, numbers)
    need_walker(names, one)
    need_walker(names, other)
    places = places_of_made(names, numbers)
    if not is_right_behind(names, places, one, other):
        raise NotBehind(one, other)
    behind = in_order(names, numbers)
    if nets_among(names, places)[one, other] < 0:
        behind[other] -= 1
    else:
        behind[one] += 1
    return behind

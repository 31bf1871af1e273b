"""How often each overtook each other one, noted up to so many: the noted numbers alone tell it."""

from ringwalkers.checks import need_stand
from ringwalkers.errors import BadPart
from ringwalkers.kinds import is_dict_but_one, is_number
from ringwalkers.notings import first_fault, least_walk, need_most, need_noted, noted_among, notes_among
from ringwalkers.paths import walkers_of


def notes(path, stand, most):
    """What each noted of each other one."""
    names = walkers_of(path)
    need_stand(names, stand)
    need_most(most)
    return notes_among(names, stand, most)


def noted(path, stand, most):
    """What each noted of all others together."""
    names = walkers_of(path)
    need_stand(names, stand)
    need_most(most)
    return noted_among(names, stand, most)


def notes_of_noted(path, noted, most):
    """The notes of which these are the numbers, None if there are none."""
    names = walkers_of(path)
    need_noted(names, noted)
    need_most(most)
    if first_fault(names, noted, most) is not None:
        return None
    places, _ = least_walk(names, noted, most)
    return notes_among(names, places, most)


def noted_fault(path, noted, most):
    """The first reason why there are no notes with these numbers, None if there are."""
    names = walkers_of(path)
    need_noted(names, noted)
    need_most(most)
    return first_fault(names, noted, most)


def most_lacking(path, part, most):
    """The most that the one who lacks can have noted, None if none can be."""
    names = walkers_of(path)
    if not is_dict_but_one(names, part, is_number):
        raise BadPart(part)
    need_most(most)
    ascending = sorted(list(part.values()))
    if any([number > (index + 1) * most for index, number in enumerate(ascending)]):
        return None
    above = [index for index, number in enumerate(ascending) if number > index * most]
    return most * (above[0] if above else len(ascending))

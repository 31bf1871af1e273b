"""The rule of the more left, where each counts no more than so many overtakings of each other one."""

from ringwalkers.notings import first_fault, least_walk, need_most, need_noted
from ringwalkers.paths import walkers_of


def least_stand(path, noted, most):
    """The least of all stands in which so much is noted, None if there is none."""
    names = walkers_of(path)
    need_noted(names, noted)
    need_most(most)
    if first_fault(names, noted, most) is not None:
        return None
    places, _ = least_walk(names, noted, most)
    return places


def run_of_noted(path, noted, most):
    """A run by the rule from the first stand to the least one, None if there is none."""
    names = walkers_of(path)
    need_noted(names, noted)
    need_most(most)
    if first_fault(names, noted, most) is not None:
        return None
    _, run = least_walk(names, noted, most)
    return run

"""Runs of which a chooser tells each next overtaking."""

from ringwalkers.checks import need_stand
from ringwalkers.choosers import need_chooser
from ringwalkers.errors import BadMany, BadNoted
from ringwalkers.kinds import is_number, is_two_walkers
from ringwalkers.madenumbers import need_made
from ringwalkers.moreleft import pairs_with_more
from ringwalkers.notings import first_fault, need_most, need_noted, noted_among
from ringwalkers.paths import walkers_of
from ringwalkers.places import ahead_of, change_places, first_places, in_order, nets_among
from ringwalkers.refusals import BadChoice


def run_chosen(path, stand, chooser, many):
    """The run of so many overtakings from a stand on, by which nothing is taken back."""
    names = walkers_of(path)
    need_stand(names, stand)
    need_chooser(chooser)
    if not is_number(many):
        raise BadMany(many)
    places = in_order(names, stand)
    run = []
    for _ in range(many):
        run.append(next_chosen(names, places, chooser, not_back(names, places)))
    return run


def not_back(names, places):
    """All overtakings of those by whom they were not overtaken."""
    ahead = ahead_of(names, places)
    nets = nets_among(names, places)
    return [(one, ahead[one]) for one in names if nets[one, ahead[one]] >= 0]


def next_chosen(names, places, chooser, may_come):
    """Asks the chooser for one of those that may come next: it is done, places change."""
    thing = chooser(in_order(names, places), list(may_come))
    if not is_two_walkers(names, thing) or tuple(thing) not in may_come:
        raise BadChoice(thing)
    one, other = thing
    change_places(places, one, other)
    return one, other


def run_to_numbers(path, numbers, chooser):
    """The run from the first stand by which these numbers are made."""
    names = walkers_of(path)
    need_made(names, numbers)
    need_chooser(chooser)
    left = in_order(names, numbers)
    places = first_places(names)
    run = []
    may_come = pairs_with_more(names, places, left)
    while may_come:
        one, other = next_chosen(names, places, chooser, may_come)
        left[one] -= 1
        run.append((one, other))
        may_come = pairs_with_more(names, places, left)
    return run


def run_to_notes(path, noted, most, chooser):
    """The run from the first stand by which so much is noted."""
    names = walkers_of(path)
    need_noted(names, noted)
    need_most(most)
    if first_fault(names, noted, most) is not None:
        raise BadNoted(noted)
    need_chooser(chooser)
    # The chooser may change what it handed in: that has no effect on the run.
    wanted = in_order(names, noted)
    places = first_places(names)
    run = []
    may_come = by_the_hungry(names, places, wanted, most)
    while may_come:
        run.append(next_chosen(names, places, chooser, may_come))
        may_come = by_the_hungry(names, places, wanted, most)
    return run


def by_the_hungry(names, places, noted, most):
    """All overtakings by one who so far noted too few of one who noted enough."""
    so_far = noted_among(names, places, most)
    ahead = ahead_of(names, places)
    hungry = [name for name in names if so_far[name] < noted[name]]
    return [(one, ahead[one]) for one in hungry if ahead[one] not in hungry]

"""Askers, who ask walkers how often they overtook, one by one, and then tell the stand."""

from ringwalkers.checks import need_stand
from ringwalkers.choosers import need_chooser
from ringwalkers.kinds import is_number, is_walker
from ringwalkers.madenumbers import made_among, places_of_made
from ringwalkers.paths import walkers_of
from ringwalkers.places import in_order, is_standing
from ringwalkers.refusals import BadAnswer, BadTop


def run_asker(path, stand, asker):
    """Whom the asker asks, in order, and the stand that it tells."""
    names = walkers_of(path)
    need_stand(names, stand)
    need_chooser(asker)
    return asked_and_told(names, made_among(names, stand), asker)


def asked_and_told(names, made, asker):
    asked = []
    while True:
        thing = asker([(name, made[name]) for name in asked])
        if is_standing(names, thing):
            return asked, in_order(names, thing)
        if not is_walker(names, thing) or thing in asked:
            raise BadAnswer(thing)
        asked.append(thing)


def beat_asker(path, asker, top):
    """The first stand, by numbers made up to top, in which the asker tells another one; None if there is none."""
    names = walkers_of(path)
    need_chooser(asker)
    if not is_number(top):
        raise BadTop(top)
    for row in lists_up_to(len(names), top):
        made = dict(zip(names, row))
        places = places_of_made(names, made)
        if places is not None:
            _, told = asked_and_told(names, made, asker)
            if told != places:
                return places
    return None


def lists_up_to(many, top):
    """All lists of so many numbers up to top, as they compare."""
    rows = [[]]
    for _ in range(many):
        rows = [row + [number] for row in rows for number in range(top + 1)]
    return rows

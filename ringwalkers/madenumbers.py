"""How many overtakings each made, and suffered: these numbers alone tell the stand."""

from ringwalkers.checks import need_numbers, need_stand
from ringwalkers.errors import BadNumbers, BadOthers
from ringwalkers.kinds import is_dict_of, is_number
from ringwalkers.paths import walkers_of
from ringwalkers.places import in_order, nets_among


def numbers_made(path, stand):
    names = walkers_of(path)
    need_stand(names, stand)
    return made_among(names, stand)


def made_among(names, places):
    nets = nets_among(names, places)
    return {one: sum([max(nets[one, other], 0) for other in names if other != one]) for one in names}


def numbers_suffered(path, stand):
    names = walkers_of(path)
    need_stand(names, stand)
    return suffered_among(names, stand)


def suffered_among(names, places):
    nets = nets_among(names, places)
    return {one: sum([max(nets[other, one], 0) for other in names if other != one]) for one in names}


def stand_of_made(path, numbers):
    """The stand whose numbers made are these, None if there is none."""
    names = walkers_of(path)
    need_numbers(names, numbers)
    return places_of_made(names, numbers)


def places_of_made(names, numbers):
    """The places by which each made so many, None if nobody made 0.

    The walkers are put on the path one by one, each time the one whom this leaves hindmost of those who are
    lacking: so each overtook none but those who are there, and the number tells how far they came by these.
    """
    if not has_zero(numbers):
        return None
    places = {}
    while len(places) < len(names):
        name, place = hindmost(names, numbers, places)
        places = {old: placed - laps_above(placed, place, len(places)) for old, placed in places.items()}
        places[name] = place
    return in_order(names, places)


def hindmost(names, numbers, places):
    """Who of those without a place comes to the least one, having overtaken so many of the others, and that place."""
    earlier = 0
    best = None
    least = None
    for name in names:
        if name in places:
            earlier += 1
        elif least is None or earlier + numbers[name] < least:
            best = name
            least = earlier + numbers[name]
    return best, least


def laps_above(old, new, many):
    """How many laps a new place is above the old one of one of so many walkers, -1 if it is below."""
    return (new - 1 - old) // many


def has_zero(numbers):
    return 0 in list(numbers.values())


def need_made(names, numbers):
    """BadNumbers also if no stand has such numbers made."""
    need_numbers(names, numbers)
    if not has_zero(numbers):
        raise BadNumbers(numbers)


def stand_of_suffered(path, numbers):
    """The stand whose numbers suffered are these, None if there is none."""
    names = walkers_of(path)
    need_numbers(names, numbers)
    return places_of_suffered(names, numbers)


def places_of_suffered(names, numbers):
    """The places by which each suffered so many, None if nobody suffered 0."""
    # Seen backward, each made what they suffered.
    back = places_of_made(names[::-1], numbers)
    if back is None:
        return None
    return {name: len(names) - 1 - back[name] for name in names}


def laps_off(path, numbers):
    """How often all others can go round those who have 0, and what is left of the numbers behind this."""
    names = walkers_of(path)
    need_made(names, numbers)
    zeros = len([name for name in names if numbers[name] == 0])
    laps = min([numbers[name] // zeros for name in names if numbers[name] > 0], default=0)
    rest = {name: numbers[name] - laps * zeros if numbers[name] > 0 else 0 for name in names}
    return laps, rest


def need_others(names, others):
    if not is_dict_of(names, others, is_number):
        raise BadOthers(others)


def lists_fault(path, numbers, others):
    """The first reason why no stand has these numbers made and those others suffered, None if one has."""
    names = walkers_of(path)
    need_numbers(names, numbers)
    need_others(names, others)
    places = places_of_made(names, numbers)
    if places is None:
        return ("made",)
    suffered = suffered_among(names, places)
    for name in names:
        if suffered[name] != others[name]:
            return "suffered", name
    return None

"""Photographs: where all stand, but not how often they went round; laps, and gains from photo to photo."""

from ringwalkers.checks import need_stand
from ringwalkers.errors import BadMany
from ringwalkers.kinds import is_dict_of, is_integer, is_number
from ringwalkers.paths import walkers_of
from ringwalkers.photographs import fewest_by, is_photograph, need_photo, rests_in, turned_by
from ringwalkers.refusals import BadGains, BadLaps


def photo_of(path, stand):
    """Who has the rest 0, who 1, and so on."""
    names = walkers_of(path)
    need_stand(names, stand)
    return sorted(names, key=lambda name: stand[name] % len(names))


def is_photo(path, thing):
    """Whether any object is a photo."""
    return is_photograph(walkers_of(path), thing)


def laps_of(path, stand):
    """The places divided by n, rounded down."""
    names = walkers_of(path)
    need_stand(names, stand)
    return {name: stand[name] // len(names) for name in names}


def stand_of_laps(path, photo, laps):
    """The stand with this photo and these laps, None if there is none."""
    names = walkers_of(path)
    need_photo(names, photo)
    if not is_dict_of(names, laps, is_integer):
        raise BadLaps(laps)
    if sum([laps[name] for name in names]) != 0:
        return None
    rests = rests_in(photo)
    return {name: laps[name] * len(names) + rests[name] for name in names}


def are_gains(path, photo, later, thing):
    """Whether any object is gains from a photo to a later one."""
    names = walkers_of(path)
    need_photo(names, photo)
    need_photo(names, later)
    if not is_dict_of(names, thing, is_integer) or sum([thing[name] for name in names]) != 0:
        return False
    rests = rests_in(later)
    return all([rest == rests[name] for name, rest in rests_behind(names, photo, thing).items()])


def rests_behind(names, photo, gains):
    """The rests that the gains from a photo leave."""
    rests = rests_in(photo)
    return {name: (rests[name] + gains[name]) % len(names) for name in names}


def overtakings_of(path, photo, gains):
    """How many overtakings a run has at least by which the places grow so."""
    names = walkers_of(path)
    need_photo(names, photo)
    if not is_dict_of(names, gains, is_integer) or sum([gains[name] for name in names]) != 0:
        raise BadGains(gains)
    behind = rests_behind(names, photo, gains)
    if len({behind[name] for name in names}) < len(names):
        raise BadGains(gains)
    return fewest_by(names, rests_in(photo), gains)


def photo_turned(path, photo, many):
    """The photo begun with the one at the index many."""
    names = walkers_of(path)
    need_photo(names, photo)
    if not is_number(many) or many >= len(names):
        raise BadMany(many)
    return turned_by(photo, many)

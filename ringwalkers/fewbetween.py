"""The fewest overtakings from photo to photo, and who then overtakes whom."""

from ringwalkers.counting import choose
from ringwalkers.errors import BadMany
from ringwalkers.kinds import is_list, is_number
from ringwalkers.paths import walkers_of
from ringwalkers.photographs import fewest_by, is_photograph, need_photo, overtakings_by, rests_in, turned_by
from ringwalkers.places import pairs_of
from ringwalkers.refusals import BadPhotos


def fewest_between(path, photo, later):
    """The least number of overtakings of a run from a stand with the one photo to one with the other."""
    names = walkers_of(path)
    need_photo(names, photo)
    need_photo(names, later)
    return fewest_of(names, photo, later)


def fewest_of(names, photo, later):
    return fewest_by(names, rests_in(photo), least_gains(names, photo, later))


def fewest_gains(path, photo, later):
    """Gains by which there are so few overtakings."""
    names = walkers_of(path)
    need_photo(names, photo)
    need_photo(names, later)
    return least_gains(names, photo, later)


def least_gains(names, photo, later):
    """Gains of which the greatest is at most n more than the least.

    All are numbers below n at first; as they must be 0 together, the greatest ones are a lap less.
    """
    many = len(names)
    rests = rests_in(photo)
    then = rests_in(later)
    gains = {name: (then[name] - rests[name]) % many for name in names}
    falling = sorted(names, key=lambda name: -gains[name])
    less = sum(list(gains.values())) // many
    return {name: gains[name] - many if name in falling[:less] else gains[name] for name in names}


def count_fewest(path, photo, later):
    """How many gains there are by which there are so few overtakings."""
    names = walkers_of(path)
    need_photo(names, photo)
    need_photo(names, later)
    gains = least_gains(names, photo, later)
    high = len(free_ones(names, gains, max(list(gains.values()))))
    low = len(free_ones(names, gains, min(list(gains.values()))))
    return choose(high + low, low)


def free_ones(names, gains, gain):
    """Who have this gain, the greatest or the least, if these two are just n apart; else nobody."""
    if max(list(gains.values())) - min(list(gains.values())) < len(names):
        return []
    return [name for name in names if gains[name] == gain]


def surely_between(path, photo, later):
    """Who overtakes whom in all runs with so few overtakings."""
    names = walkers_of(path)
    need_photo(names, photo)
    need_photo(names, later)
    return [pair for pair, nets in nets_between(names, photo, later) if min(nets) > 0]


def perhaps_between(path, photo, later):
    """Who overtakes whom in some run with so few overtakings."""
    names = walkers_of(path)
    need_photo(names, photo)
    need_photo(names, later)
    return [pair for pair, nets in nets_between(names, photo, later) if max(nets) > 0]


def nets_between(names, photo, later):
    """All pairs, each with nets in runs with so few overtakings, the least and the greatest among them."""
    rests = rests_in(photo)
    gains = least_gains(names, photo, later)
    high = free_ones(names, gains, max(list(gains.values())))
    low = free_ones(names, gains, min(list(gains.values())))
    found = []
    for one, other in pairs_of(names):
        nets = [overtakings_by(len(names), rests[one], rests[other], one_gain, other_gain)
                for one_gain, other_gain in gains_of_two(gains, high, low, one, other)]
        found.append(((one, other), nets))
    return found


def gains_of_two(gains, high, low, one, other):
    """The gains that two can have at once: any of the free ones can be those with the greatest and the least ones.

    That two free ones have the same gain is left out: it lies between the two ways in which they have unlike ones.
    """
    free = high + low
    if one not in free and other not in free:
        return [(gains[one], gains[other])]
    greatest = gains[high[0]]
    least = gains[low[0]]
    if other not in free:
        return [(greatest, gains[other]), (least, gains[other])]
    if one not in free:
        return [(gains[one], greatest), (gains[one], least)]
    return [(greatest, least), (least, greatest)]


def can_be_between(path, photo, later, many):
    """Whether some run from a stand with the one photo to one with the other has just so many overtakings."""
    names = walkers_of(path)
    need_photo(names, photo)
    need_photo(names, later)
    if not is_number(many):
        raise BadMany(many)
    more = many - fewest_of(names, photo, later)
    return more >= 0 and more % 2 == 0


def fewest_turned(path, photo, later):
    """The fewest overtakings to the later photo, turned as it may be, and by how much it is turned then."""
    names = walkers_of(path)
    need_photo(names, photo)
    need_photo(names, later)
    return min([(fewest_of(names, photo, turned_by(later, many)), many) for many in range(len(names))])


def fewest_through(path, photos):
    """The least number of overtakings from the first one of some photos to the second one, and so on."""
    names = walkers_of(path)
    if not is_list(photos) or len(photos) == 0:
        raise BadPhotos(0)
    for index, thing in enumerate(photos):
        if not is_photograph(names, thing):
            raise BadPhotos(index)
    return sum([fewest_of(names, photo, later) for photo, later in zip(photos, photos[1:])])

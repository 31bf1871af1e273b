"""A run done again and again: whoever stands where somebody stood at first does what that one did."""

from math import lcm

from ringwalkers.checks import need_stand, need_times, need_walker
from ringwalkers.counting import fraction
from ringwalkers.paths import walkers_of
from ringwalkers.places import first_places


def again(path, stand, times):
    """The stand behind so many times."""
    names = walkers_of(path)
    need_stand(names, stand)
    need_times(times)
    places = first_places(names)
    doubled = stand
    # By doubling, as times may be great.
    while times > 0:
        if times % 2 == 1:
            places = then(names, places, doubled)
        doubled = then(names, doubled, doubled)
        times //= 2
    return places


def and_then(path, stand, later):
    """The stand behind the run to stand and then, likewise, that to later."""
    names = walkers_of(path)
    need_stand(names, stand)
    need_stand(names, later)
    return then(names, stand, later)


def then(names, places, later):
    many = len(names)
    behind = {}
    for name in names:
        laps, rest = divmod(places[name], many)
        behind[name] = later[names[rest]] + laps * many
    return behind


def undone(path, stand):
    """The stand that, behind stand, leads back to the first stand."""
    names = walkers_of(path)
    need_stand(names, stand)
    many = len(names)
    back = first_places(names)
    for index, name in enumerate(names):
        laps, rest = divmod(stand[name], many)
        back[names[rest]] = index - laps * many
    return back


def circles(path, stand):
    """Who comes to whose rest, round and round, with what each gains by one round."""
    names = walkers_of(path)
    need_stand(names, stand)
    return circles_of(names, stand)


def circles_of(names, places):
    first = first_places(names)
    met = {}
    found = []
    for name in names:
        circle = []
        here = name
        while here not in met:
            met[here] = True
            circle.append(here)
            here = names[places[here] % len(names)]
        if circle:
            found.append((circle, sum([places[each] - first[each] for each in circle])))
    return found


def times_back(path, stand):
    """The least number of times, 1 or more, behind which all have the rests that they had at first."""
    names = walkers_of(path)
    need_stand(names, stand)
    times = 1
    for circle, _ in circles_of(names, stand):
        times = lcm(times, len(circle))
    return times


def for_ever(path, stand, one, other):
    """How often one overtakes other each time, net, in the long run."""
    names = walkers_of(path)
    need_stand(names, stand)
    need_walker(names, one)
    need_walker(names, other)
    speeds = speeds_of(names, stand)
    one_gain, one_many = speeds[one]
    other_gain, other_many = speeds[other]
    return fraction(one_gain * other_many - other_gain * one_many, one_many * other_many * len(names))


def speeds_of(names, places):
    """The gain of each one's circle, and how many it has."""
    return {name: (gain, len(circle)) for circle, gain in circles_of(names, places) for name in circle}


def fastest(path, stand):
    """The walkers whom nobody overtakes for ever."""
    names = walkers_of(path)
    need_stand(names, stand)
    speeds = speeds_of(names, stand)
    best_gain, best_many = speeds[names[0]]
    for gain, many in speeds.values():
        if gain * best_many > best_gain * many:
            best_gain, best_many = gain, many
    return [name for name in names if speeds[name][0] * best_many == best_gain * speeds[name][1]]

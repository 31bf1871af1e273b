"""The tests' own way of counting: going overtaking by overtaking, and keeping count of who overtook whom.

Nothing here asks the package.
"""

import functools
import itertools


def names_of(many):
    """The first letters, but not in their own order: c a b, c a b d, e c a b d, .."""
    letters = ["a", "b", "c", "d", "e", "f", "g", "h"][:many]
    return letters[::2][::-1] + letters[1::2]


def many_names(many):
    return ["w{}".format(index) for index in range(many)]


def all_pairs(names):
    return list(itertools.permutations(names, 2))


def by_path(names, pairs):
    """Pairs sorted by one, then by other, in the order of the names."""
    return sorted(pairs, key=lambda pair: (names.index(pair[0]), names.index(pair[1])))


def moves(places):
    """All overtakings (one, other) that can be done."""
    many = len(places)
    return [(one, other) for one in places for other in places
            if one != other and (places[one] + 1) % many == places[other] % many]


def moved(places, one, other):
    behind = dict(places)
    behind[one] += 1
    behind[other] -= 1
    return behind


def key(places):
    return tuple(places.values())


class Walked:
    """A stand come to: its places, how often one overtook other (net) on the way, how many overtakings it took."""

    def __init__(self, places, nets, distance, run):
        self.places = places
        self.nets = nets
        self.distance = distance
        self.run = run


def begin_of(names, places):
    return Walked(dict(places), {pair: 0 for pair in all_pairs(names)}, 0, [])


def gone(walked, one, other):
    nets = dict(walked.nets)
    nets[one, other] += 1
    nets[other, one] -= 1
    return Walked(moved(walked.places, one, other), nets, walked.distance + 1, walked.run + [(one, other)])


def explore(names, depth, places=None):
    """All stands come to by so many overtakings or fewer, nearest first, as a dict by key.

    Going on in all ways, each stand's nets must come out one and the same.
    """
    start = begin_of(names, {name: index for index, name in enumerate(names)} if places is None else places)
    found = {key(start.places): start}
    level = [start]
    for _ in range(depth):
        further = []
        for walked in level:
            for one, other in moves(walked.places):
                behind = gone(walked, one, other)
                known = found.get(key(behind.places))
                if known is None:
                    found[key(behind.places)] = behind
                    further.append(behind)
                elif known.nets != behind.nets:
                    raise AssertionError("two runs to one stand have unlike nets")
        level = further
    return found


SMALL = [(2, 6), (3, 6), (4, 4), (5, 3)]


def small_paths():
    """Small paths with all their near stands."""
    return [(names_of(many), list(explore(names_of(many), depth).values())) for many, depth in SMALL]


def made(walked, name):
    return sum(number for pair, number in walked.nets.items() if pair[0] == name and number > 0)


def suffered(walked, name):
    return sum(number for pair, number in walked.nets.items() if pair[1] == name and number > 0)


def total(walked):
    return sum(number for number in walked.nets.values() if number > 0)


def far_stand(names, laps):
    """A stand far off: each one so many laps ahead, as laps tells, and the first one as many behind as this takes."""
    many = len(names)
    places = {name: index + many * laps[index] for index, name in enumerate(names)}
    places[names[0]] -= many * sum(laps)
    return places


def shortest_runs(names, places, goal):
    """All shortest runs from places to a near goal, going overtaking by overtaking, as lists compare by the path."""
    depth = 0
    while key(goal) not in explore(names, depth, places):
        depth += 1
    left = {reached: walked.distance for reached, walked in explore(names, depth, goal).items()}
    runs = [([], places)]
    for steps in range(depth, 0, -1):
        runs = [(run + [pair], moved(now, *pair)) for run, now in runs for pair in by_path(names, moves(now))
                if left.get(key(moved(now, *pair))) == steps - 1]
    return sorted([run for run, _ in runs], key=lambda run: [tuple(names.index(name) for name in pair) for pair in run])


def stands_on(places, runs):
    """All stands, by key, by which runs from these places go, ends included."""
    met = {key(places): dict(places)}
    for run in runs:
        now = places
        for pair in run:
            now = moved(now, *pair)
            met[key(now)] = now
    return met


def near_pairs():
    """Small paths, each with pairs of near stands: who is walked to from the first stand, then who from there."""
    for many, first_depth, depth in ((2, 2, 5), (3, 2, 5), (4, 1, 4), (5, 1, 2)):
        names = names_of(many)
        for begun in list(explore(names, first_depth).values()):
            for walked in list(explore(names, depth, begun.places).values()):
                yield names, begun, walked


@functools.lru_cache(maxsize=None)
def near_pairs_with_runs():
    """The near pairs, each with all shortest runs between them."""
    return [(names, begun, walked, shortest_runs(names, begun.places, walked.places))
            for names, begun, walked in near_pairs()]


def net_by(names, places, one, other):
    """The net of far stands, by how many laps it takes to come from one's lead over other at first to that now."""
    first = names.index(one) - names.index(other)
    many = len(names)
    lead = places[one] - places[other]
    # Each time that one passes a multiple of n above other one overtakes other.
    return -((0 - lead) // many) + ((0 - first) // many)


def earlier_keys(near):
    """The keys of all stands earlier than each near one, by going back overtaking by overtaking."""
    known = {}
    for reached in sorted(near, key=lambda each: near[each].distance):
        walked = near[reached]
        earlier = {reached}
        for one, other in moves(walked.places):
            back = near.get(key(moved(walked.places, one, other)))
            if back is not None and back.distance == walked.distance - 1:
                earlier |= known[key(back.places)]
        known[reached] = earlier
    return known


def noted_pairs(walked, most):
    """What each noted of each other one, as a tuple, pairs by the order of the path."""
    return tuple(min(max(number, 0), most) for number in walked.nets.values())


@functools.lru_cache(maxsize=None)
def stands_by_notes(many, most, depth):
    """All near stands, in order of how many overtakings they take, by their notes."""
    by_notes = {}
    for walked in explore(names_of(many), depth).values():
        by_notes.setdefault(noted_pairs(walked, most), []).append(walked)
    return by_notes


# Walkers, most, a distance up to which all notes are shown, and one up to which all last stands are.
NOTED = [(2, 1, 3, 0), (2, 2, 4, 1), (2, 3, 6, 2), (3, 1, 8, 1), (3, 2, 12, 5), (3, 3, 16, 9), (4, 1, 14, 4)]


def notes_of(names, pairs_noted):
    """Notes as a dict, from the numbers of all pairs by the order of the path."""
    return dict(zip(all_pairs(names), pairs_noted))


def sums_of(names, notes):
    """What each noted of all others together."""
    return {name: sum(number for (one, _), number in notes.items() if one == name) for name in names}


def choose(many, few):
    """In how many ways few of many are chosen, 0 for many below 0."""
    if many < 0:
        return 0
    top, bottom = 1, 1
    for index in range(few):
        top *= many - index
        bottom *= index + 1
    return top // bottom

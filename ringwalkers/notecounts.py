"""Notes counted, and the numbers noted by the walkers put in order."""

from ringwalkers.checks import need_number
from ringwalkers.counting import choose, power
from ringwalkers.errors import BadIndex
from ringwalkers.kinds import is_number
from ringwalkers.notings import first_fault, need_most, need_noted
from ringwalkers.paths import walkers_of


def count_notes(path, most):
    """How many notes there are."""
    many = len(walkers_of(path))
    need_most(most)
    return power(most * many + 1, many - 1)


def count_noted(path, most, number):
    """Of how many notes the numbers are so much together."""
    many = len(walkers_of(path))
    need_most(most)
    need_number(number)
    series = differences(many, most)
    return sum([series[sums] * choose(number - sums + many - 1, many - 1) for sums in series])


def differences(many, most):
    """The lists without a fault, counted by their sums, differences taken so many times; a dict by sums.

    Of all lists of numbers the least ones, up to the first that is too great, are a list without a fault, and all
    others are above what that one might be: counted by sums, differences taken once for each number, these lists
    together are 1.
    """
    known = []
    for size in range(many + 1):
        series = {0: 1}
        for fewer in range(size):
            further = (size - fewer) * (fewer * most + 1)
            for sums in known[fewer]:
                place = sums + further
                series[place] = series.get(place, 0) - choose(size, fewer) * known[fewer][sums]
        known.append(series)
    return known[many]


def noted_at(path, most, index):
    """The noted numbers with this index among all without a fault, as lists compare."""
    names = walkers_of(path)
    need_most(most)
    if not is_number(index) or index >= power(most * len(names) + 1, len(names) - 1):
        raise BadIndex(index)
    found = {}
    classes = [0] * len(names)
    for name in names:
        for place in range(len(names)):
            lists = lists_with(classes, place, most)
            if index < lists * width_of(place, most):
                break
            index -= lists * width_of(place, most)
        found[name] = least_of(place, most) + index // lists
        classes[place] += 1
        index = index % lists
    return found


def noted_index(path, noted, most):
    """The index of noted numbers among all without a fault, None if they have one."""
    names = walkers_of(path)
    need_noted(names, noted)
    need_most(most)
    if first_fault(names, noted, most) is not None:
        return None
    index = 0
    classes = [0] * len(names)
    for name in names:
        # A number belongs to the first place that it is not too great for.
        own = (noted[name] + most - 1) // most
        for place in range(own):
            index += lists_with(classes, place, most) * width_of(place, most)
        index += lists_with(classes, own, most) * (noted[name] - least_of(own, most))
        classes[own] += 1
    return index


def width_of(place, most):
    """How many numbers belong to a place: those that are too great for each place ahead of it, not for it."""
    return 1 if place == 0 else most


def least_of(place, most):
    return 0 if place == 0 else (place - 1) * most + 1


def lists_with(classes, place, most):
    """How many lists without a fault begin with given numbers, of which classes tells how many belong to each place.

    One more of them belongs to the place that is handed in.
    """
    free = len(classes) - sum(classes) - 1
    ways = {0: 1}
    begun = 0
    for at, known in enumerate(classes):
        begun += known + (1 if at == place else 0)
        width = width_of(at, most)
        behind = {}
        for used in ways:
            for more in range(free - used + 1):
                # Up to a place there must be one number more than the places ahead of it.
                if begun + used + more > at:
                    counted = ways[used] * choose(free - used, more) * power(width, more)
                    behind[used + more] = behind.get(used + more, 0) + counted
        ways = behind
    return ways.get(free, 0)

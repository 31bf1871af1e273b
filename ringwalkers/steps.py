"""Steps of shortest runs: which comes ahead of which; and shortest runs counted."""

from ringwalkers.checks import need_stand
from ringwalkers.errors import BadStep
from ringwalkers.kinds import is_integer, is_list_of, is_two_walkers
from ringwalkers.paths import walkers_of
from ringwalkers.places import change_places, in_order, key_of, nets_among
from ringwalkers.rooms import stand_below
from ringwalkers.towards import begin_with, keys_behind, left_between, left_in_all


def goes_ahead(path, stand, later, step, another):
    """Whether a step comes ahead of another one in all shortest runs."""
    shown = shown_behind(path, stand, later, step, another)
    return shown is None and tuple(step) != tuple(another)


def shown_behind(path, stand, later, step, another):
    """A stand on the way in which another step is done and this one is not, None if there is none."""
    names = walkers_of(path)
    need_stand(names, stand)
    need_stand(names, later)
    begin = nets_among(names, stand)
    end = nets_among(names, later)
    need_step(names, begin, end, step)
    need_step(names, begin, end, another)
    most = {pair: max(begin[pair], end[pair]) for pair in begin}
    one, other, number = step
    most[one, other] = number - 1
    one, other, number = another
    # That one overtook other so often at least is told by the turned pair.
    most[other, one] = -number
    return stand_below(names, most)


def need_step(names, begin, end, thing):
    if not is_step(names, begin, end, thing):
        raise BadStep(thing)


def is_step(names, begin, end, thing):
    """Whether any object is a step from a stand with the nets of begin to one with those of end."""
    if not is_list_of(3, thing):
        return False
    one, other, number = thing
    if not is_two_walkers(names, (one, other)) or not is_integer(number):
        return False
    return begin[one, other] < number <= end[one, other]


def count_runs(path, stand, later):
    """How many shortest runs there are."""
    names = walkers_of(path)
    need_stand(names, stand)
    need_stand(names, later)
    ways = {key_of(names, stand): 1}
    for _ in range(left_in_all(left_between(names, stand, later))):
        ways = ways_behind(names, ways, later)
    return sum(list(ways.values()))


def ways_behind(names, ways, later):
    """In how many ways each stand, as a key, is come to by one overtaking more."""
    behind = {}
    for key, many in ways.items():
        for next_key in keys_behind(names, key, later):
            behind[next_key] = behind.get(next_key, 0) + many
    return behind


def runs_between(path, stand, later):
    """All shortest runs, as lists compare."""
    names = walkers_of(path)
    need_stand(names, stand)
    need_stand(names, later)
    # Each one has just one right ahead: so going on in the order of who overtakes keeps the runs in order.
    begun = [([], in_order(names, stand))]
    for _ in range(left_in_all(left_between(names, stand, later))):
        begun = [gone_on for run, places in begun for gone_on in longer_runs(names, run, places, later)]
    return [run for run, _ in begun]


def longer_runs(names, run, places, later):
    """The run with each overtaking that may come next, and the places behind it."""
    longer = []
    for one, other in begin_with(names, places, left_between(names, places, later)):
        moved = dict(places)
        change_places(moved, one, other)
        longer.append((run + [(one, other)], moved))
    return longer

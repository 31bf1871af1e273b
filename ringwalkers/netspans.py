"""Stands whose nets lie within spans: one of them or a ring, and how far the nets and places can go."""

from ringwalkers.checks import need_walker
from ringwalkers.paths import walkers_of
from ringwalkers.places import first_places, is_standing, pairs_of
from ringwalkers.rooms import greatest_nets, room_steps, rooms_of, stand_below
from ringwalkers.rows import ring_below
from ringwalkers.spans import lies_within, most_of, need_some_within, need_spans


def fits(path, spans, thing):
    """Whether any object is a stand within the spans."""
    names = walkers_of(path)
    need_spans(names, spans)
    return is_standing(names, thing) and lies_within(names, spans, thing)


def span_room(path, spans, x, y):
    """The laps by which x stays below y, and above it, None if nothing bounds this."""
    names = walkers_of(path)
    need_spans(names, spans)
    need_walker(names, x)
    need_walker(names, y)
    if x == y:
        return 0
    return rooms_of(names, most_of(names, spans)).get((x, y))


def stand_within(path, spans):
    """A stand within the spans, None if there is none."""
    names = walkers_of(path)
    need_spans(names, spans)
    return stand_below(names, most_of(names, spans))


def spans_ring(path, spans):
    """Walkers whose rooms, round and round, are together 0 or less; None if some stand is within."""
    names = walkers_of(path)
    need_spans(names, spans)
    return ring_below(names, room_steps(names, most_of(names, spans)))


def net_bounds(path, spans, one, other):
    """The least and the most net of one and other in stands within; None where there is no bound."""
    names = walkers_of(path)
    need_spans(names, spans)
    need_walker(names, one)
    need_walker(names, other)
    most = most_of(names, spans)
    need_some_within(names, most)
    if one == other:
        return 0, 0
    greatest = greatest_nets(names, most)
    return least_net(greatest, one, other), greatest.get((one, other))


def least_net(greatest, one, other):
    """The least net of one and other: 0 less the greatest one of the turned pair, None where there is none."""
    if (other, one) not in greatest:
        return None
    return -greatest[other, one]


def sure_overtakers(path, spans):
    """All pairs of whom the one overtook the other in all stands within."""
    names = walkers_of(path)
    need_spans(names, spans)
    most = most_of(names, spans)
    need_some_within(names, most)
    greatest = greatest_nets(names, most)
    return [(one, other) for one, other in pairs_of(names) if (other, one) in greatest and greatest[other, one] < 0]


def place_span(path, spans, walker):
    """The least and the most place of a walker in stands within; None where there is no bound."""
    names = walkers_of(path)
    need_spans(names, spans)
    need_walker(names, walker)
    most = most_of(names, spans)
    need_some_within(names, most)
    greatest = greatest_nets(names, most)
    others = [name for name in names if name != walker]
    place = first_places(names)[walker]
    lows = [least_net(greatest, walker, other) for other in others]
    highs = [greatest.get((walker, other)) for other in others]
    return place_with(place, lows), place_with(place, highs)


def place_with(place, nets):
    """The place by these nets over all others, None if one is None."""
    if None in nets:
        return None
    return place + sum(nets)

"""Spans of nets: what is one, and which nets they bound."""

from ringwalkers.kinds import is_integer, is_list_of, is_two_walkers
from ringwalkers.places import nets_among, pairs_of
from ringwalkers.refusals import BadSpans, NoneWithin
from ringwalkers.rooms import room_steps
from ringwalkers.rows import least_distances


def need_spans(names, spans):
    if not are_spans(names, spans):
        raise BadSpans(spans)


def are_spans(names, thing):
    """Whether any object is a dict from pairs of unlike walkers to spans."""
    if not isinstance(thing, dict):
        return False
    return all([is_two_walkers(names, pair) and is_span(span) for pair, span in thing.items()])


def is_span(thing):
    """Whether any object is a pair of a least and a most one, of which each may be None."""
    if not is_list_of(2, thing):
        return False
    least, most = thing
    if least is None or most is None:
        return is_bound(least) and is_bound(most)
    return is_integer(least) and is_integer(most) and least <= most


def is_bound(thing):
    return thing is None or is_integer(thing)


def lies_within(names, spans, places):
    """Whether the nets of a stand lie within the spans."""
    nets = nets_among(names, places)
    most = most_of(names, spans)
    return all([nets[pair] <= most[pair] for pair in most])


def most_of(names, spans):
    """The most that the net of each pair may be, of those that have a bound above."""
    found = {}
    # In the order of the names, so that equal spans lead to one ring.
    for one, other in pairs_of(names):
        _, most = spans.get((one, other), (None, None))
        least, _ = spans.get((other, one), (None, None))
        # The least net of a pair is 0 less the most of the turned one.
        bounds = [most] if most is not None else []
        if least is not None:
            bounds.append(-least)
        if bounds:
            found[one, other] = min(bounds)
    return found


def need_some_within(names, most):
    """NoneWithin if no stand has nets so bounded."""
    if least_distances(names, room_steps(names, most)) is None:
        raise NoneWithin()

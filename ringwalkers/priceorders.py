"""The cheapest stand of those that have an order and meet wishes, or a ring of wishes."""

from ringwalkers.kinds import is_integer, is_list
from ringwalkers.orders import need_order, need_wishes, nets_in, wished_steps
from ringwalkers.paths import walkers_of
from ringwalkers.pricing import cheapest_with, names_with_prices
from ringwalkers.rows import ring_below


def cheapest_in_order(path, prices, order, wishes):
    """The least price of a stand that has the order and meets the wishes, and such a stand; None if there is none."""
    names = names_with_prices(path, prices, order, wishes)
    found = cheapest_with(names, prices, order, wishes)
    if found is None:
        return None
    price, places, _ = found
    return price, places


def order_ring(path, order, wishes):
    """Indexes of wishes that, round and round, ask for more than their nets can be; None if they can be met."""
    names = walkers_of(path)
    need_order(names, order)
    need_wishes(names, wishes)
    ring = ring_below(names, wished_steps(nets_in(names, order), wishes))
    if ring is None:
        return None
    # The walkers come from other to one, the wishes from one to other.
    return [hardest_wish(wishes, one, other) for other, one in zip(ring, ring[1:] + ring[:1])][::-1]


def hardest_wish(wishes, one, other):
    """The index of the wish of one and other that asks for the most."""
    _, index = max([(wish[2], -index) for index, wish in enumerate(wishes) if wish[0] == one and wish[1] == other])
    return -index


def is_order_ring(path, order, wishes, thing):
    """Whether any object is such a list of indexes."""
    names = walkers_of(path)
    need_order(names, order)
    need_wishes(names, wishes)
    if not is_list(thing) or not all([is_index(wishes, each) for each in thing]):
        return False
    if len({each for each in thing}) < len(thing):
        return False
    ring = [wishes[index] for index in thing]
    if any([wish[1] != after[0] for wish, after in zip(ring, ring[1:] + ring[:1])]):
        return False
    nets = nets_in(names, order)
    # Without wishes nothing is asked for: so an empty list is no ring, either.
    return sum([least - nets[one, other] for one, other, least in ring]) > 0


def is_index(wishes, thing):
    return is_integer(thing) and 0 <= thing < len(wishes)

"""Weights that show why no stand is cheaper, and the cheapest stand of all orders."""

from itertools import permutations

from ringwalkers.kinds import is_dict_of, is_integer, is_list_of, is_number
from ringwalkers.orders import need_wishes, nets_in
from ringwalkers.paths import walkers_of
from ringwalkers.places import pairs_ahead
from ringwalkers.pricelists import need_prices
from ringwalkers.pricing import cheapest_with, names_with_prices, terms_of
from ringwalkers.weighing import are_let, is_balanced, worth_of


def price_weights(path, prices, order, wishes):
    """Weights of pairs, and of wishes, that are worth just the least price; None if no stand meets the wishes."""
    names = names_with_prices(path, prices, order, wishes)
    found = cheapest_with(names, prices, order, wishes)
    if found is None:
        return None
    _, _, weights = found
    pairs = pairs_ahead(names)
    return dict(zip(pairs, weights)), weights[len(pairs):]


def are_price_weights(path, prices, order, wishes, thing):
    """Whether any object is such weights."""
    names = names_with_prices(path, prices, order, wishes)
    found = cheapest_with(names, prices, order, wishes)
    if found is None or not are_weights(names, wishes, thing):
        return False
    by_pairs, by_wishes = thing
    weights = [by_pairs[pair] for pair in pairs_ahead(names)] + list(by_wishes)
    # Whatever stand has the order: weights in balance are worth the same.
    terms = terms_of(names, prices, wishes, nets_in(names, order))
    return are_let(terms, weights) and is_balanced(names, terms, weights) and worth_of(terms, weights) == found[0]


def are_weights(names, wishes, thing):
    """Whether any object is integers of the pairs and numbers of the wishes."""
    if not is_list_of(2, thing):
        return False
    by_pairs, by_wishes = thing
    if not is_dict_of(pairs_ahead(names), by_pairs, is_integer):
        return False
    return is_list_of(len(wishes), by_wishes) and all([is_number(weight) for weight in by_wishes])


def cheapest(path, prices, wishes):
    """The least price of all stands that meet the wishes, and a stand that has it; None if there is none."""
    best = cheapest_of_all(path, prices, wishes)
    if best is None:
        return None
    price, places, _ = best
    return price, places


def cheapest_order(path, prices, wishes):
    """The first order that has a cheapest stand, None if there is none."""
    best = cheapest_of_all(path, prices, wishes)
    return None if best is None else best[2]


def cheapest_of_all(path, prices, wishes):
    """The least price, a stand that has it, and its order, the first such one; None if no stand meets the wishes."""
    names = walkers_of(path)
    need_prices(names, prices)
    need_wishes(names, wishes)
    best = None
    for others in permutations(names[1:]):
        order = names[:1] + list(others)
        found = cheapest_with(names, prices, order, wishes)
        if found is not None and (best is None or found[0] < best[0]):
            best = found[0], found[1], order
    return best

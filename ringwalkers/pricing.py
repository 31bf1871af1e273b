"""The least price in an order, with a stand that has it and weights that are worth it."""

from ringwalkers.orders import moved_by_laps, need_order, need_wishes, places_meeting
from ringwalkers.paths import walkers_of
from ringwalkers.places import nets_among, pairs_ahead
from ringwalkers.pricelists import need_prices
from ringwalkers.rows import least_distances
from ringwalkers.weighing import best_weights, changes_left, losses_of, worth_of


def names_with_prices(path, prices, order, wishes):
    """The names of the path's walkers, if all is right that is handed in."""
    names = walkers_of(path)
    need_prices(names, prices)
    need_order(names, order)
    need_wishes(names, wishes)
    return names


def terms_of(names, prices, wishes, nets):
    """The terms of the weights of pairs, then those of wishes, which stand on the other side of the balance."""
    terms = []
    for one, other in pairs_ahead(names):
        terms.append((one, other, -prices[other, one], prices[one, other], nets[one, other]))
    for one, other, least in wishes:
        terms.append((other, one, 0, None, least - nets[one, other]))
    return terms


def cheapest_with(names, prices, order, wishes):
    """The least price, a stand that has it, and weights that are worth it; None if no stand meets the wishes."""
    begin = places_meeting(names, order, wishes)
    if begin is None:
        return None
    terms = terms_of(names, prices, wishes, nets_among(names, begin))
    weights = best_weights(names, terms)
    # Where no weight can change but at a loss, the laps by which the losses hold lead to a stand of the same price.
    laps = least_distances(names, losses_of(changes_left(terms, weights)))
    return worth_of(terms, weights), moved_by_laps(names, begin, laps), weights

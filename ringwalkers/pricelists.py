"""Prices: what it costs that one overtakes other once."""

from ringwalkers.checks import need_stand
from ringwalkers.kinds import is_dict_of, is_times
from ringwalkers.paths import walkers_of
from ringwalkers.places import pairs_of
from ringwalkers.refusals import BadPrices
from ringwalkers.towards import left_between


def need_prices(names, prices):
    if not is_dict_of(pairs_of(names), prices, is_times):
        raise BadPrices(prices)


def price_between(path, prices, stand, later):
    """What a shortest run costs."""
    names = walkers_of(path)
    need_prices(names, prices)
    need_stand(names, stand)
    need_stand(names, later)
    left = left_between(names, stand, later)
    return sum([left[pair] * prices[pair] for pair in left])

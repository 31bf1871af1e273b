"""The tests' own way with prices, orders, wishes and weights: stands come to by overtaking, and plain sums."""

import functools
import itertools

from tests import slowly


@functools.lru_cache(maxsize=None)
def near_stands(many, depth):
    return list(slowly.explore(slowly.names_of(many), depth).values())


def round_of(walked):
    """Who walks right behind whom, begun with the path's first walker."""
    ahead = dict(slowly.moves(walked.places))
    row = [list(walked.places)[0]]
    while len(row) < len(ahead):
        row.append(ahead[row[-1]])
    return tuple(row)


@functools.lru_cache(maxsize=None)
def near_by_order(many, depth):
    """All near stands by their orders."""
    found = {}
    for walked in near_stands(many, depth):
        found.setdefault(round_of(walked), []).append(walked)
    return found


def price_of(prices, walked):
    return sum(prices[pair] * number for pair, number in walked.nets.items() if number > 0)


def is_met(walked, wishes):
    return all(walked.nets[one, other] >= least for one, other, least in wishes)


def begun(names, order):
    """The order begun with the path's first walker."""
    index = list(order).index(names[0])
    return tuple(order[index:]) + tuple(order[:index])


def nets_of(names, places):
    return {pair: slowly.net_by(names, places, *pair) for pair in slowly.all_pairs(names)}


def round_by(names, places):
    """The order of a stand far off."""
    begin = places[names[0]]
    return tuple(sorted(names, key=lambda name: (places[name] - begin) % len(names)))


def balances(names, wishes, weights):
    """Of each walker the sum of the weights of pairs less that of the weights of wishes, each as the document says."""
    by_pairs, by_wishes = weights
    found = []
    for name in names:
        pairs = sum(weight for (one, _), weight in by_pairs.items() if one == name)
        pairs -= sum(weight for (_, other), weight in by_pairs.items() if other == name)
        asked = sum(weight for (one, _, _), weight in zip(wishes, by_wishes) if one == name)
        asked -= sum(weight for (_, other, _), weight in zip(wishes, by_wishes) if other == name)
        found.append(pairs - asked)
    return found


def worth(nets, wishes, weights):
    by_pairs, by_wishes = weights
    by_nets = sum(weight * nets[pair] for pair, weight in by_pairs.items())
    return by_nets + sum(weight * (least - nets[one, other]) for (one, other, least), weight in zip(wishes, by_wishes))


def are_weights(names, prices, wishes, weights):
    """Whether these weights of all pairs and wishes are such as can be, whatever they are worth."""
    by_pairs, by_wishes = weights
    if any(not -prices[other, one] <= weight <= prices[one, other] for (one, other), weight in by_pairs.items()):
        return False
    return min(by_wishes, default=0) >= 0 and not any(balances(names, wishes, weights))


def drawn_wishes(chance, names, most, many):
    wishes = []
    for _ in range(many):
        one, other = chance.sample(names, 2)
        wishes.append((one, other, chance.randint(-most, most)))
    return wishes


def drawn_order(chance, names):
    return chance.sample(names, len(names))


def all_weights(names, prices, wishes, most):
    """All lists of weights of pairs as prices let, and of wishes up to most."""
    pairs = list(itertools.combinations(names, 2))
    ranges = [range(-prices[other, one], prices[one, other] + 1) for one, other in pairs]
    for row in itertools.product(*ranges, *[range(most + 1)] * len(wishes)):
        yield dict(zip(pairs, row)), list(row[len(pairs):])

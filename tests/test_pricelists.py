"""Section 19 of the document: prices."""

import random
import unittest

from ringwalkers.errors import BadPath, BadStand
from ringwalkers.paths import Path
from ringwalkers.pricelists import price_between
from ringwalkers.refusals import BadPrices

from tests import slowly
from tests.anything import ANYTHING
from tests.told import ToldCase

ABC = Path(["a", "b", "c"])
FIRST = {"a": 0, "b": 1, "c": 2}
PRICES = {("a", "b"): 3, ("a", "c"): 1, ("b", "a"): 1, ("b", "c"): 1, ("c", "a"): 1, ("c", "b"): 1}


def drawn_prices(chance, names, most):
    return {pair: chance.randint(1, most) for pair in slowly.all_pairs(names)}


class Prices(ToldCase):
    def test_what_runs_cost(self):
        chance = random.Random(190)
        for names, begun, walked, runs in slowly.near_pairs_with_runs():
            prices = drawn_prices(chance, names, 9)
            costs = {sum(prices[pair] for pair in run) for run in runs}
            self.assertEqual(len(costs), 1)
            self.assertTold(price_between(Path(names), prices, begun.places, walked.places), costs.pop())

    def test_no_run_costs_less(self):
        chance = random.Random(191)
        names = slowly.names_of(3)
        prices = drawn_prices(chance, names, 9)
        places = {name: index for index, name in enumerate(names)}
        for _ in range(200):
            here, cost = dict(places), 0
            for _ in range(chance.randint(0, 12)):
                one, other = chance.choice(slowly.moves(here))
                here, cost = slowly.moved(here, one, other), cost + prices[one, other]
            self.assertLessEqual(price_between(Path(names), prices, places, here), cost)

    def test_far_ones(self):
        names = slowly.many_names(20)
        path = Path(names)
        chance = random.Random(192)
        prices = drawn_prices(chance, names, 10 ** 6)
        stand = {name: index for index, name in enumerate(names)}
        later = slowly.far_stand(names, [0] + [(-1) ** index * (10 ** 15 + index) for index in range(19)])
        expected = sum(prices[pair] * max(slowly.net_by(names, later, *pair), 0) for pair in prices)
        self.assertTold(price_between(path, prices, stand, later), expected)
        back = {pair[::-1]: price for pair, price in prices.items()}
        self.assertTold(price_between(path, back, later, stand), expected)
        self.assertTold(price_between(path, prices, later, later), 0)

    def test_wrong_ones(self):
        for thing in ANYTHING + [{**PRICES, ("a", "b"): wrong} for wrong in (0, -1, True, None, "1", [1])]:
            self.assertRefused(BadPrices, {"prices": thing}, price_between, ABC, thing, None, None)
        few = {pair: price for pair, price in PRICES.items() if pair != ("c", "b")}
        more = dict(PRICES)
        more["a", "a"] = 1
        for thing in (few, more):
            self.assertRefused(BadPrices, {"prices": thing}, price_between, ABC, thing, FIRST, FIRST)
        none = {"a": 0, "b": 1, "c": 1}
        self.assertRefused(BadStand, {"stand": none}, price_between, ABC, PRICES, none, None)
        self.assertRefused(BadStand, {"stand": none}, price_between, ABC, PRICES, FIRST, none)
        self.assertRefused(BadPath, {"thing": PRICES}, price_between, PRICES, None, None, None)


if __name__ == "__main__":
    unittest.main()

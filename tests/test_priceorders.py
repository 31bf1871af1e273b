"""Section 19 of the document: the cheapest stand in an order that meets wishes, or a ring of wishes."""

import itertools
import random
import unittest

from ringwalkers.errors import BadPath
from ringwalkers.paths import Path, is_stand
from ringwalkers.priceorders import cheapest_in_order, is_order_ring, order_ring
from ringwalkers.priceweights import price_weights
from ringwalkers.refusals import BadOrder, BadPrices, BadWishes

from tests import pricing, slowly
from tests.anything import ANYTHING
from tests.test_pricelists import PRICES, drawn_prices
from tests.told import ToldCase

ABC = Path(["a", "b", "c"])
ORDER = ["a", "c", "b"]
# Walkers, a distance far enough for what is drawn of them, and how many draws.
DRAWN = [(2, 16, 150), (3, 24, 300), (4, 13, 150)]


def drawn(seed):
    """Names, prices, an order and wishes, with all near stands that have the order."""
    chance = random.Random(seed)
    for many, depth, share in DRAWN:
        names = slowly.names_of(many)
        for _ in range(share):
            prices = drawn_prices(chance, names, chance.choice([1, 2, 5]))
            order = pricing.drawn_order(chance, names)
            wishes = pricing.drawn_wishes(chance, names, chance.choice([1, 2]), chance.randint(0, 3))
            yield names, prices, order, wishes, pricing.near_by_order(many, depth)[pricing.begun(names, order)]


class Cheapest(ToldCase):
    def test_near_stands(self):
        met = {True: 0, False: 0}
        for names, prices, order, wishes, near in drawn(193):
            path = Path(names)
            meeting = [walked for walked in near if pricing.is_met(walked, wishes)]
            told = cheapest_in_order(path, prices, order, wishes)
            ring = order_ring(path, order, wishes)
            met[told is None] += 1
            if told is None:
                self.assertEqual(meeting, [])
                self.check_ring(path, order, wishes, ring, near)
                continue
            self.assertIsNone(ring)
            price, stand = told
            self.assertTold(price, min(pricing.price_of(prices, walked) for walked in meeting))
            self.assertTold(stand, [each for each in meeting if each.places == stand][0].places)
            self.assertEqual(pricing.price_of(prices, [each for each in meeting if each.places == stand][0]), price)
        self.assertGreater(min(met.values()), 30)

    def check_ring(self, path, order, wishes, ring, near):
        self.assertEqual(len(ring), len(set(ring)))
        self.assertGreaterEqual(len(ring), 1)
        asked = [wishes[index] for index in ring]
        for wish, after in zip(asked, asked[1:] + asked[:1]):
            self.assertEqual(wish[1], after[0])
        sums = {sum(walked.nets[one, other] for one, other, _ in asked) for walked in near}
        self.assertEqual(len(sums), 1)
        self.assertGreater(sum(least for _, _, least in asked), sums.pop())
        self.assertTold(is_order_ring(path, order, wishes, ring), True)
        self.assertTold(is_order_ring(path, order, wishes, tuple(ring[1:] + ring[:1])), True)

    def test_whoever_is_first(self):
        for names, prices, order, wishes, _ in drawn(194):
            path = Path(names)
            told = cheapest_in_order(path, prices, order, wishes)
            ring = order_ring(path, order, wishes)
            weights = price_weights(path, prices, order, wishes)
            for index in range(len(names)):
                turned = tuple(order[index:] + order[:index])
                self.assertTold(cheapest_in_order(path, prices, turned, tuple(map(list, wishes))), told)
                self.assertTold(order_ring(path, turned, tuple(map(list, wishes))), ring)
                self.assertTold(price_weights(path, prices, turned, tuple(map(list, wishes))), weights)

    def test_far_ones(self):
        chance = random.Random(195)
        rings = 0
        for turn in range(300):
            names = slowly.many_names(chance.choice([2, 3, 4, 5, 6, 6, 7]))
            path = Path(names)
            prices = drawn_prices(chance, names, chance.choice([3, 10 ** 6]))
            order = pricing.drawn_order(chance, names)
            wishes = pricing.drawn_wishes(chance, names, chance.choice([5, 10 ** 12, 10 ** 13]), chance.randint(0, 9))
            told = cheapest_in_order(path, prices, order, wishes)
            ring = order_ring(path, order, wishes)
            self.assertEqual(told is None, ring is not None)
            if told is None:
                rings += 1
                self.assertTold(is_order_ring(path, order, wishes, ring), True)
                continue
            price, stand = told
            self.assertEqual(list(stand), names)
            self.assertTrue(is_stand(path, stand))
            self.assertEqual(pricing.round_by(names, stand), pricing.begun(names, order))
            nets = pricing.nets_of(names, stand)
            for one, other, least in wishes:
                self.assertGreaterEqual(nets[one, other], least)
            self.assertTold(price, sum(prices[pair] * number for pair, number in nets.items() if number > 0))
            # None that meets the wishes costs less than any weights are worth.
            weights = price_weights(path, prices, order, wishes)
            self.assertTrue(pricing.are_weights(names, prices, wishes, weights))
            self.assertEqual(pricing.worth(nets, wishes, weights), price)
        self.assertGreater(rings, 20)
        self.assertLess(rings, 280)


class Rings(ToldCase):
    def test_all_lists_of_indexes(self):
        counts = {True: 0, False: 0}
        for names, _, order, wishes, near in itertools.islice(drawn(196), 0, None, 3):
            path = Path(names)
            for size in range(len(wishes) + 1):
                for indexes in itertools.permutations(range(len(wishes)), size):
                    expected = self.is_ring(near, [wishes[index] for index in indexes])
                    counts[expected] += 1
                    self.assertTold(is_order_ring(path, order, wishes, list(indexes)), expected)
                    self.assertTold(is_order_ring(path, order, wishes, indexes), expected)
        self.assertGreater(min(counts.values()), 30)

    def is_ring(self, near, asked):
        if not asked or any(wish[1] != after[0] for wish, after in zip(asked, asked[1:] + asked[:1])):
            return False
        return sum(least for _, _, least in asked) > sum(near[0].nets[one, other] for one, other, _ in asked)

    def test_any_object(self):
        wishes = [("a", "b", 1), ("b", "a", 0), ("a", "b", 2)]
        right = [[0, 1], (0, 1), [1, 0], [2, 1], (1, 2)]
        for thing in right:
            self.assertTold(is_order_ring(ABC, ORDER, wishes, thing), True)
        wrong = [[0], [0, 0], [0, 1, 0, 1], [0, 2], [-1, 1], [3, 1], [0, True], [False, 1], ["0", 1], {0: 1, 1: 0},
                 "01", [0, None], [[0], 1], [2, 1, 2, 1], [1, 1]]
        for thing in ANYTHING + wrong:
            if thing not in right:
                self.assertTold(is_order_ring(ABC, ORDER, wishes, thing), False)

    def test_a_ring_goes_twice_by_one_walker(self):
        # Two rings that only together ask for too much have a walker in common.
        path = Path(["a", "b", "c", "d"])
        wishes = [("a", "b", 1), ("b", "a", 0), ("a", "c", 5), ("c", "a", -5)]
        self.assertTold(is_order_ring(path, ["a", "b", "c", "d"], wishes, [0, 1, 2, 3]), True)
        self.assertTold(is_order_ring(path, ["a", "b", "c", "d"], wishes, [2, 3]), False)
        self.assertTold(is_order_ring(path, ["a", "b", "c", "d"], wishes, [0, 2, 1, 3]), False)


class Wrong(ToldCase):
    def test_orders(self):
        calls = [lambda order: cheapest_in_order(ABC, PRICES, order, None), lambda order: order_ring(ABC, order, None),
                 lambda order: is_order_ring(ABC, order, None, None)]
        for work in calls:
            for thing in ANYTHING + [["a", "b", "b"], ["a", "b", "d"], ["a", "b", "c", "d"], "abc", ["b", "c"]]:
                if thing != ["a", "b", "c"]:
                    self.assertRefused(BadOrder, {"order": thing}, work, thing)

    def test_wishes(self):
        calls = [lambda wishes: cheapest_in_order(ABC, PRICES, ORDER, wishes),
                 lambda wishes: order_ring(ABC, ORDER, wishes),
                 lambda wishes: is_order_ring(ABC, ORDER, wishes, None)]
        good = ("a", "b", 1)
        bad = [("a", "a", 1), ("a", "b"), ("a", "b", 1, 1), ("a", "d", 1), ("a", "b", True), ("a", "b", None), "ab1",
               (("a", "b"), 1), {"a": 1, "b": 1, "c": 1}, ("a", None, 1), ("a", "b", "1")]
        for work in calls:
            for thing in (None, 0, True, "abc", {("a", "b"): 1}, ABC, len):
                self.assertRefused(BadWishes, {"index": 0}, work, thing)
            for thing in bad:
                self.assertRefused(BadWishes, {"index": 0}, work, [thing])
                self.assertRefused(BadWishes, {"index": 2}, work, (good, list(good), thing, good, thing))
            for thing in ANYTHING:
                if thing != ("a", "b", 1) or thing[2] is True:
                    self.assertRefused(BadWishes, {"index": 1}, work, [good, thing])

    def test_what_goes_first(self):
        self.assertRefused(BadPath, {"thing": None}, cheapest_in_order, None, None, None, None)
        self.assertRefused(BadPrices, {"prices": None}, cheapest_in_order, ABC, None, None, None)
        self.assertRefused(BadOrder, {"order": None}, cheapest_in_order, ABC, PRICES, None, None)
        self.assertRefused(BadOrder, {"order": None}, order_ring, ABC, None, None)


class Example(ToldCase):
    def test_the_documents(self):
        price, stand = cheapest_in_order(ABC, PRICES, ORDER, [])
        self.assertTold(price, 1)
        self.assertIn(stand, [{"a": 0, "b": 2, "c": 1}, {"a": -1, "b": 1, "c": 3}])
        told = cheapest_in_order(ABC, PRICES, ORDER, [("a", "b", 1)])
        self.assertTold(told, (3, {"a": 1, "b": 0, "c": 2}))
        self.assertIn(order_ring(ABC, ORDER, [("a", "b", 1), ("b", "a", 0)]), ([0, 1], [1, 0]))
        self.assertTold(cheapest_in_order(ABC, PRICES, ORDER, [("a", "b", 1), ("b", "a", 0)]), None)


if __name__ == "__main__":
    unittest.main()

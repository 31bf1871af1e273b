"""Section 19 of the document: weights that show why no stand is cheaper, the cheapest of all orders."""

import itertools
import random
import unittest

from ringwalkers.errors import BadPath
from ringwalkers.paths import Path, is_stand
from ringwalkers.pricelists import price_between
from ringwalkers.priceorders import cheapest_in_order, order_ring
from ringwalkers.priceweights import are_price_weights, cheapest, cheapest_order, price_weights
from ringwalkers.refusals import BadOrder, BadPrices, BadWishes

from tests import pricing, slowly
from tests.anything import ANYTHING
from tests.test_priceorders import drawn
from tests.test_pricelists import PRICES, drawn_prices
from tests.told import ToldCase

ABC = Path(["a", "b", "c"])
ORDER = ["a", "c", "b"]
WISHES = [("a", "b", 1)]
WEIGHTS = ({("a", "b"): 3, ("a", "c"): 0, ("b", "c"): 0}, [3])


class Weights(ToldCase):
    def test_near_stands(self):
        for names, prices, order, wishes, near in drawn(197):
            path = Path(names)
            found = cheapest_in_order(path, prices, order, wishes)
            told = price_weights(path, prices, order, wishes)
            if found is None:
                self.assertIsNone(told)
                continue
            self.assertTold(list(told[0]), list(itertools.combinations(names, 2)))
            self.assertEqual((type(told), type(told[1]), len(told[1])), (tuple, list, len(wishes)))
            self.assertTrue(pricing.are_weights(names, prices, wishes, told))
            self.assertEqual({pricing.worth(walked.nets, wishes, told) for walked in near}, {found[0]})
            self.assertTold(are_price_weights(path, prices, order, wishes, told), True)

    def test_all_weights(self):
        chance = random.Random(198)
        counts = {True: 0, False: 0}
        for many, share in ((2, 40), (3, 60)):
            names = slowly.names_of(many)
            path = Path(names)
            for _ in range(share):
                prices = drawn_prices(chance, names, 2)
                wishes = pricing.drawn_wishes(chance, names, 2, chance.randint(0, 2))
                order = pricing.drawn_order(chance, names)
                near = pricing.near_by_order(many, 16)[pricing.begun(names, order)]
                found = cheapest_in_order(path, prices, order, wishes)
                for weights in pricing.all_weights(names, prices, wishes, 3):
                    value = pricing.worth(near[0].nets, wishes, weights)
                    can_be = pricing.are_weights(names, prices, wishes, weights)
                    expected = found is not None and can_be and value == found[0]
                    if can_be and found is not None:
                        self.assertLessEqual(value, found[0])
                    counts[expected] += 1
                    by_pairs, by_wishes = weights
                    backward = {pair: by_pairs[pair] for pair in reversed(list(by_pairs))}
                    self.assertTold(are_price_weights(path, prices, order, wishes, weights), expected)
                    if expected:
                        handed = [backward, tuple(by_wishes)]
                        self.assertTold(are_price_weights(path, prices, order[::1], wishes, handed), True)
        self.assertGreater(min(counts.values()), 100)

    def test_weights_that_prices_do_not_let(self):
        # In balance and worth the least price, but for the bounds.
        names = ["a", "b"]
        path, order = Path(names), ["a", "b"]
        prices = {("a", "b"): 2, ("b", "a"): 3}
        wishes = [("a", "b", 0), ("b", "a", 0)]
        for weight, first, second in itertools.product(range(-5, 6), range(7), range(7)):
            expected = -3 <= weight <= 2 and weight == first - second
            handed = ({("a", "b"): weight}, [first, second])
            self.assertTold(are_price_weights(path, prices, order, wishes, handed), expected)

    def test_any_object(self):
        by_pairs, by_wishes = WEIGHTS
        wrong = [by_pairs, (by_pairs,), (by_pairs, by_wishes, []), (by_wishes, by_pairs), (by_pairs, []),
                 (by_pairs, [3, 0]), (by_pairs, [True]), (by_pairs, ["3"]), (by_pairs, 3), (by_pairs, {0: 3}),
                 ({**by_pairs, ("a", "b"): True}, [1]), ({**by_pairs, ("b", "a"): 0}, [3]),
                 ({("a", "b"): 3, ("a", "c"): 0}, [3]), ({("a", "b"): 3, ("a", "c"): 0, ("c", "b"): 0}, [3]),
                 ({**by_pairs, ("b", "c"): None}, [3]), ({**by_pairs, ("a", "b"): 2}, [2]), (None, [3]), "ab"]
        for thing in ANYTHING + wrong:
            self.assertTold(are_price_weights(ABC, PRICES, ORDER, WISHES, thing), False)
            ring = WISHES + [("b", "a", 0)]
            self.assertTold(are_price_weights(ABC, PRICES, ORDER, ring, thing), False)
        self.assertTold(are_price_weights(ABC, PRICES, ORDER, WISHES, WEIGHTS), True)
        self.assertTold(are_price_weights(ABC, PRICES, ORDER, WISHES + [("b", "a", 0)], (by_pairs, [3, 0])), False)


class OfAll(ToldCase):
    def test_near_stands(self):
        chance = random.Random(199)
        nones = 0
        for many, depth, share in ((2, 16, 60), (3, 24, 150), (4, 13, 60)):
            names = slowly.names_of(many)
            path = Path(names)
            near = pricing.near_stands(many, depth)
            for _ in range(share):
                prices = drawn_prices(chance, names, chance.choice([1, 3, 5]))
                wishes = pricing.drawn_wishes(chance, names, chance.choice([1, 2]), chance.randint(0, 4))
                meeting = [walked for walked in near if pricing.is_met(walked, wishes)]
                told = cheapest(path, prices, wishes)
                order = cheapest_order(path, prices, wishes)
                if not meeting:
                    nones += 1
                    self.assertIsNone(told)
                    self.assertIsNone(order)
                    for row in itertools.permutations(names[1:]):
                        self.assertIsNotNone(order_ring(path, names[:1] + list(row), wishes))
                    continue
                least = min(pricing.price_of(prices, walked) for walked in meeting)
                best = [walked for walked in meeting if pricing.price_of(prices, walked) == least]
                self.assertTold(told[0], least)
                self.assertIn(told[1], [walked.places for walked in best])
                self.assertTold(told, (told[0], {name: told[1][name] for name in names}))
                orders = [[names.index(name) for name in pricing.round_of(walked)] for walked in best]
                self.assertTold(order, [names[index] for index in min(orders)])
        self.assertGreater(nones, 10)

    def test_five_and_six_far_ones(self):
        chance = random.Random(200)
        for many in (5, 5, 5, 6):
            names = slowly.many_names(many)
            path = Path(names)
            prices = drawn_prices(chance, names, 10 ** 6)
            # Wishes that some stand far off meets.
            far = slowly.far_stand(names, [0] + [chance.randint(-10 ** 11, 10 ** 11) for _ in names[1:]])
            pairs = [chance.sample(names, 2) for _ in range(8)]
            wishes = [(one, other, slowly.net_by(names, far, one, other) - chance.choice([0, 1, 10 ** 10]))
                      for one, other in pairs]
            price, stand = cheapest(path, prices, wishes)
            self.assertTrue(is_stand(path, stand))
            first = {name: index for index, name in enumerate(names)}
            self.assertTold(price_between(path, prices, first, stand), price)
            prices_by_order = {}
            for row in itertools.permutations(names[1:]):
                found = cheapest_in_order(path, prices, names[:1] + list(row), wishes)
                prices_by_order[row] = None if found is None else found[0]
            least = min(each for each in prices_by_order.values() if each is not None)
            self.assertTold(price, least)
            rows = [row for row, each in prices_by_order.items() if each == least]
            self.assertTold(cheapest_order(path, prices, wishes), names[:1] + list(rows[0]))

    def test_two_walkers(self):
        path = Path(["b", "a"])
        prices = {("a", "b"): 10 ** 6, ("b", "a"): 1}
        self.assertTold(cheapest(path, prices, [("a", "b", 10 ** 12)]),
                        (10 ** 18, {"b": -10 ** 12, "a": 1 + 10 ** 12}))
        self.assertTold(cheapest_order(path, prices, [("a", "b", 10 ** 12)]), ["b", "a"])
        self.assertTold(cheapest(path, prices, [("a", "b", 1), ("b", "a", 0)]), None)


class Wrong(ToldCase):
    def test_what_goes_first(self):
        for work in (price_weights, lambda *rest: are_price_weights(*rest, None)):
            self.assertRefused(BadPath, {"thing": None}, work, None, None, None, None)
            self.assertRefused(BadPrices, {"prices": None}, work, ABC, None, None, None)
            self.assertRefused(BadOrder, {"order": None}, work, ABC, PRICES, None, None)
            self.assertRefused(BadWishes, {"index": 0}, work, ABC, PRICES, ORDER, None)
        for work in (cheapest, cheapest_order):
            self.assertRefused(BadPath, {"thing": None}, work, None, None, None)
            self.assertRefused(BadPrices, {"prices": None}, work, ABC, None, None)
            self.assertRefused(BadWishes, {"index": 1}, work, ABC, PRICES, [("a", "b", 0), None])


class Example(ToldCase):
    def test_the_documents(self):
        self.assertTold(are_price_weights(ABC, PRICES, ORDER, WISHES, WEIGHTS), True)
        self.assertTold(cheapest(ABC, PRICES, []), (0, {"a": 0, "b": 1, "c": 2}))
        self.assertTold(cheapest(ABC, PRICES, WISHES), (3, {"a": 1, "b": 0, "c": 2}))


if __name__ == "__main__":
    unittest.main()

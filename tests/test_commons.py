"""Section 9 of the document: earlier stands, the last common earlier one, the first common later one or a ring."""

import itertools
import random
import unittest

from ringwalkers.commons import (
    common_ring, earlier_ones, first_common, is_common_ring, is_earlier, last_common, to_common)
from ringwalkers.errors import BadPath, BadStand, BadStands, NoCommon
from ringwalkers.paths import Path, turned
from ringwalkers.shortestruns import fewest
from ringwalkers.tables import overtook

from tests import slowly
from tests.anything import ANYTHING
from tests.told import ToldCase

ABC = Path(["a", "b", "c"])
FIRST = {"a": 0, "b": 1, "c": 2}
S = {"a": 2, "b": 1, "c": 0}
T = {"a": 1, "b": 0, "c": 2}
V = {"a": -1, "b": 1, "c": 3}
NONE = {"a": 0, "b": 1, "c": 3}


class Near:
    """All near stands of a small path, each with the keys of all earlier ones."""

    def __init__(self, many, depth):
        self.names = slowly.names_of(many)
        self.path = Path(self.names)
        self.depth = depth
        self.found = slowly.explore(self.names, depth)
        self.earlier = slowly.earlier_keys(self.found)

    def lists(self, longest, share):
        """Lists of near stands, not too many."""
        stands = list(self.found.values())
        for pair in itertools.product(stands, repeat=2):
            yield list(pair)
        chance = random.Random(len(stands))
        for _ in range(share):
            yield chance.choices(stands, k=chance.randint(1, longest))


NEAR = [Near(2, 5), Near(3, 7), Near(4, 3), Near(5, 2)]


class Earlier(ToldCase):
    def test_near_stands(self):
        for near in NEAR:
            for reached, walked in near.found.items():
                for other in near.found.values():
                    expected = slowly.key(other.places) in near.earlier[reached]
                    self.assertTold(is_earlier(near.path, other.places, walked.places), expected)

    def test_all_earlier_ones(self):
        for near in [Near(2, 8), Near(3, 8), Near(4, 5)]:
            for reached, walked in near.found.items():
                earlier = [near.found[each] for each in near.earlier[reached]]
                earlier = sorted(earlier, key=lambda each: (each.distance, list(each.places.values())))
                self.assertTold(earlier_ones(near.path, walked.places), [each.places for each in earlier])

    def test_the_most_earlier_ones(self):
        near = Near(4, 8)
        for reached in list(near.found)[-40:]:
            told = earlier_ones(near.path, near.found[reached].places)
            self.assertEqual({slowly.key(each) for each in told}, near.earlier[reached])
            self.assertEqual(len(told), len(near.earlier[reached]))
            self.assertTold(told[0], {name: index for index, name in enumerate(near.names)})
            self.assertTold(told[-1], near.found[reached].places)

    def test_far_ones(self):
        names = slowly.many_names(20)
        path = Path(names)
        laps = [0] + [(-1) ** index * 10 ** 17 * index for index in range(19)]
        stand = slowly.far_stand(names, laps)
        later = slowly.far_stand(names, [2 * each for each in laps])
        self.assertTold(is_earlier(path, stand, later), True)
        self.assertTold(is_earlier(path, later, stand), False)
        self.assertTold(is_earlier(path, later, later), True)

    def test_wrong_stands(self):
        for thing in ANYTHING + [NONE]:
            self.assertRefused(BadStand, {"stand": thing}, is_earlier, ABC, thing, None)
            self.assertRefused(BadStand, {"stand": thing}, is_earlier, ABC, S, thing)
            self.assertRefused(BadStand, {"stand": thing}, earlier_ones, ABC, thing)


class LastCommon(ToldCase):
    def test_near_stands(self):
        for near in NEAR:
            for walked in near.lists(8, 200):
                common = set.intersection(*[near.earlier[slowly.key(each.places)] for each in walked])
                last = last_common(near.path, [each.places for each in walked])
                self.assertEqual(list(last), near.names)
                self.assertIn(slowly.key(last), common)
                self.assertEqual(near.earlier[slowly.key(last)], common)

    def test_with_all_later_than_one_it_is_later(self):
        near = Near(3, 6)
        for base in list(near.found.values())[:20]:
            later = [each.places for reached, each in near.found.items()
                     if slowly.key(base.places) in near.earlier[reached]]
            last = last_common(near.path, later[-8:])
            self.assertIn(slowly.key(base.places), near.earlier[slowly.key(last)])
            self.assertTold(last_common(near.path, later), base.places)

    def test_great_nets(self):
        for names, stands in great_lists(21):
            path = Path(names)
            last = last_common(path, stands)
            for stand in stands:
                self.assertTrue(comes_ahead(names, last, stand))
            for one, other in slowly.moves(last):
                further = slowly.moved(last, one, other)
                if slowly.net_by(names, further, one, other) > 0:
                    self.assertFalse(all(comes_ahead(names, further, stand) for stand in stands))

    def test_turned_about(self):
        for near in NEAR:
            for walked in itertools.islice(near.lists(3, 0), 0, None, 7):
                check_turned(self, near.path, [each.places for each in walked])


def comes_ahead(names, stand, later):
    """Whether each net lies between 0 and that in later, by the tests' own nets."""
    for one, other in slowly.all_pairs(names):
        end = slowly.net_by(names, later, one, other)
        if not min(end, 0) <= slowly.net_by(names, stand, one, other) <= max(end, 0):
            return False
    return True


def great_lists(seed):
    """Lists of stands of many walkers with great nets, drawn so that they may be in agreement."""
    chance = random.Random(seed)
    for many, far, most in ((2, 10 ** 18, 8), (7, 10 ** 18, 3), (20, 10 ** 17, 8), (20, 3, 2), (12, 1, 4)):
        names = slowly.many_names(many)
        strength = [chance.randint(0, far) for _ in names]
        stands = []
        for _ in range(most):
            laps = [(each + chance.randint(0, far // 3)) for each in strength]
            mean = sum(laps) // many
            laps = [each - mean for each in laps]
            stands.append(slowly.far_stand(names, laps))
        yield names, stands


def check_turned(case, path, stands):
    back = [turned(path, stand)[1] for stand in stands]
    there = turned(path, stands[0])[0]
    case.assertTold(last_common(there, back), turned(path, last_common(path, stands))[1])
    common = first_common(path, stands)
    case.assertTold(first_common(there, back), None if common is None else turned(path, common)[1])


class FirstCommon(ToldCase):
    def test_near_stands(self):
        for near in NEAR:
            for walked in near.lists(8, 200):
                self.check(near, walked, [each.places for each in walked])

    def check(self, near, walked, stands):
        keys = {slowly.key(each.places) for each in walked}
        later = [reached for reached in near.found if keys <= near.earlier[reached]]
        common = first_common(near.path, stands)
        ring = common_ring(near.path, stands)
        self.assertEqual(common is None, ring is not None)
        if ring is not None:
            self.assertEqual(later, [])
            self.check_ring(near, walked, stands, ring)
            self.assertRefusedTelling(NoCommon, {"ring": ring}, to_common, near.path, stands)
            return
        self.assertEqual(list(common), near.names)
        if slowly.key(common) in near.found:
            self.assertTrue(keys <= near.earlier[slowly.key(common)])
            for each in later:
                self.assertIn(slowly.key(common), near.earlier[each])
        else:
            self.assertEqual(later, [])
            self.check_least(near.names, common, stands)
        self.assertTold(to_common(near.path, stands), [fewest(near.path, each, common) for each in stands])

    def check_ring(self, near, walked, stands, ring):
        self.assertTold(is_common_ring(near.path, stands, ring), True)
        self.assertGreaterEqual(len(ring), 2)
        self.assertEqual(len({walker for walker, _ in ring}), len(ring))
        for (walker, index), (other, _) in zip(ring, ring[1:] + ring[:1]):
            self.assertGreater(walked[index].nets[walker, other], 0)

    def check_least(self, names, common, stands):
        for stand in stands:
            self.assertTrue(comes_ahead(names, stand, common))
        for one, other in slowly.moves(common):
            back = slowly.moved(common, one, other)
            if slowly.net_by(names, common, other, one) > 0:
                self.assertFalse(all(comes_ahead(names, stand, back) for stand in stands))

    def test_great_nets(self):
        rings = 0
        for seed in range(8):
            for names, stands in great_lists(seed):
                path = Path(names)
                common = first_common(path, stands)
                ring = common_ring(path, stands)
                self.assertEqual(common is None, ring is not None)
                if ring is None:
                    self.check_least(names, common, stands)
                    self.assertTold(to_common(path, stands), [fewest(path, each, common) for each in stands])
                else:
                    rings += 1
                    self.assertTold(is_common_ring(path, stands, ring), True)
                    for (walker, index), (other, _) in zip(ring, ring[1:] + ring[:1]):
                        self.assertGreater(slowly.net_by(names, stands[index], walker, other), 0)
        self.assertGreater(rings, 5)
        self.assertLess(rings, 35)

    def test_with_all_earlier_than_one_it_is_there(self):
        near = Near(4, 5)
        for reached, walked in list(near.found.items())[::5]:
            earlier = [near.found[each].places for each in sorted(near.earlier[reached])]
            self.assertTold(first_common(near.path, earlier), walked.places)
            common = first_common(near.path, earlier[:3])
            self.assertIn(slowly.key(common), near.earlier[reached])
            self.assertTold(common_ring(near.path, earlier), None)

    def test_just_if_there_is_one_order_of_who_overtook_whom(self):
        near = NEAR[1]
        for walked in near.lists(4, 100):
            stands = [each.places for each in walked]
            orders = [order for order in itertools.permutations(near.names) if all(
                order.index(other) < order.index(one) for stand in stands for one in near.names
                for other in overtook(near.path, stand, one))]
            self.assertEqual(first_common(near.path, stands) is None, orders == [])

    def test_a_long_ring(self):
        names = slowly.many_names(20)
        path = Path(names)
        first = {name: index for index, name in enumerate(names)}
        stands = [slowly.moved(first, one, other) for one, other in zip(names, names[1:] + names[:1])]
        self.assertTold(first_common(path, stands[:8]), run_over(first, names[:9]))
        ring = common_ring(path, stands)
        begin = ring[0][1]
        self.assertTold(ring, [(names[(begin + k) % 20], (begin + k) % 20) for k in range(20)])
        self.assertTold(is_common_ring(path, stands, ring), True)
        self.assertTold(is_common_ring(path, stands, ring[:-1]), False)
        self.assertTold(is_common_ring(path, stands, ring[::-1]), False)


def run_over(first, row):
    """Each one of a row overtook all behind it in the row, once."""
    places = dict(first)
    for one, other in itertools.combinations(row, 2):
        places[one] += 1
        places[other] -= 1
    return places


class Rings(ToldCase):
    def test_any_ring(self):
        for near in NEAR[:3]:
            for walked in itertools.islice(near.lists(3, 20), 0, None, 11):
                stands = [each.places for each in walked]
                parts = list(itertools.product(near.names, range(-1, len(walked) + 1)))
                for ring in itertools.product(parts, repeat=2):
                    self.check(near, walked, stands, list(ring))
        near = NEAR[1]
        for walked in itertools.islice(near.lists(3, 0), 0, None, 97):
            stands = [each.places for each in walked]
            for ring in itertools.product(itertools.product(near.names, range(len(walked))), repeat=3):
                self.check(near, walked, stands, list(ring))

    def check(self, near, walked, stands, ring):
        expected = len({walker for walker, _ in ring}) == len(ring)
        for (walker, index), (other, _) in zip(ring, ring[1:] + ring[:1]):
            expected = expected and 0 <= index < len(walked) and walked[index].nets.get((walker, other), 0) > 0
        self.assertTold(is_common_ring(near.path, stands, ring), expected)
        self.assertTold(is_common_ring(near.path, tuple(stands), tuple(list(part) for part in ring)), expected)

    def test_none(self):
        right = [("a", 0), ("c", 1)]
        self.assertTold(is_common_ring(ABC, [S, V], right), True)
        self.assertTold(is_common_ring(ABC, [S, V], right[::-1]), True)
        wrongs = [[("a", 0), ("c", True)], [("a", False), ("c", 1)], [("a", 0)], [], [("a", 0), ("c", -1)],
                  [("a", 0), ("c", 1), ("a", 0), ("c", 1)], [("a", 0), ("c", 1, 1)], [("a", 0), "c1"],
                  [("a", 0), ("c",)],
                  [("a", 0), ("c", 10 ** 30)], [("a", 0), ("d", 1)], [(["a"], 0), ("c", 1)], [("a", 0), ("c", "1")],
                  [("a", 0), ("c", None)], {"a": 0, "c": 1}, [("a", 1), ("c", 1)], [("a", 0), ("c", 0)], "ac"]
        for wrong in wrongs + ANYTHING:
            self.assertTold(is_common_ring(ABC, [S, V], wrong), False)


class WrongStands(ToldCase):
    def test_wrong_stands(self):
        works = [last_common, first_common, common_ring, to_common,
                 lambda path, stands: is_common_ring(path, stands, None)]
        for work in works:
            for thing in [[], (), None, 3, True, "ab", "", {}, {0: S}, S, ABC, len]:
                self.assertRefused(BadStands, {"index": 0}, work, ABC, thing)
            self.assertRefused(BadStands, {"index": 0}, work, ABC, [NONE])
            self.assertRefused(BadStands, {"index": 1}, work, ABC, (S, NONE, None))
            self.assertRefused(BadStands, {"index": 2}, work, ABC, [S, V, None, NONE])
            self.assertRefused(BadPath, {"thing": S}, work, S, [])
            for thing in ANYTHING:
                self.assertRefused(BadStands, {"index": 3}, work, ABC, [S, V, S, thing, NONE])

    def test_one_alone(self):
        for stand in (FIRST, S, T, V):
            self.assertTold(last_common(ABC, [stand]), stand)
            self.assertTold(first_common(ABC, (stand, stand)), stand)
            self.assertTold(to_common(ABC, [stand]), [0])
            self.assertTold(common_ring(ABC, [stand, FIRST]), None)


class Example(ToldCase):
    def test_the_documents(self):
        self.assertTold(last_common(ABC, [S, T]), T)
        self.assertTold(first_common(ABC, [S, T]), S)
        self.assertTold(last_common(ABC, [S, V]), FIRST)
        self.assertTold(is_common_ring(ABC, [S, V], [("a", 0), ("c", 1)]), True)
        self.assertTold(is_common_ring(ABC, [S, V], common_ring(ABC, [S, V])), True)
        self.assertEqual(len(earlier_ones(ABC, S)), 6)
        self.assertTold(earlier_ones(ABC, S), [FIRST, {"a": 0, "b": 2, "c": 1}, {"a": 1, "b": 0, "c": 2},
                                               {"a": 1, "b": 2, "c": 0}, {"a": 2, "b": 0, "c": 1}, S])


if __name__ == "__main__":
    unittest.main()

"""Section 16 of the document: observers who put their views together."""

import functools
import itertools
import unittest

from ringwalkers.errors import BadStand
from ringwalkers.observers import (
    arcs, are_alike_for, count_alike, fewest_observers, knows_all, nets_known, seams_left, tells_all)
from ringwalkers.paths import Path
from ringwalkers.refusals import BadLot, BadPairs

from tests import slowly
from tests.anything import ANYTHING
from tests.test_views import round_from
from tests.told import ToldCase

ABC = Path(["a", "b", "c"])
STAND = {"a": 4, "b": 0, "c": -1}
FIRST = {"a": 0, "b": 1, "c": 2}


def lots(names):
    """All lots, in the order of the path."""
    return [list(lot) for size in range(1, len(names) + 1) for lot in itertools.combinations(names, size)]


def views_of(names, walked, lot):
    return tuple(walked.nets[one, other] for one in lot for other in names if other != one)


@functools.lru_cache(maxsize=None)
def scenes():
    """Names, a lot, and near stands, each with all stands that are alike for the lot.

    What is alike to a stand differs from it by one overtaking of each pair at most: so all of these are near, too.
    """
    found = []
    for many, depth, share in ((2, 4, 9), (3, 4, 40), (4, 2, 12), (5, 1, 4)):
        names = slowly.names_of(many)
        reach = depth + many * (many - 1) // 2
        near = list(slowly.explore(names, reach).values())
        for lot in lots(names):
            alike = {}
            for walked in near:
                alike.setdefault(views_of(names, walked, lot), []).append(walked)
            few = [walked for walked in near if walked.distance <= depth][-share:]
            found.append((names, lot, [(walked, alike[views_of(names, walked, lot)]) for walked in few]))
    return found


class Lots(ToldCase):
    def test_arcs(self):
        for names, lot, cases in scenes():
            path = Path(names)
            for walked, _ in cases:
                expected = {}
                for observer in lot:
                    row = round_from(walked.places, observer)
                    ends = [row.index(other) for other in lot if other in row]
                    expected[observer] = row[:min(ends)] if ends else row
                for told_lot in (lot, tuple(lot[::-1]), lot[1:] + lot[:1]):
                    self.assertTold(arcs(path, walked.places, told_lot), expected)

    def test_alike_stands(self):
        for names, lot, cases in scenes():
            path = Path(names)
            for walked, alike in cases:
                self.assertTold(count_alike(path, walked.places, lot[::-1]), len(alike))
                self.assertTold(knows_all(path, walked.places, lot), len(alike) == 1)
                keys = [slowly.key(each.places) for each in alike]
                for other, _ in cases:
                    expected = slowly.key(other.places) in keys
                    self.assertTold(are_alike_for(path, walked.places, other.places, lot), expected)
                for each in alike:
                    self.assertTold(are_alike_for(path, walked.places, each.places, lot), True)

    def test_walkers_of_an_arc_stand_in_it_in_any_order(self):
        for names, lot, cases in scenes():
            for walked, alike in cases:
                told = arcs(Path(names), walked.places, lot)
                for each in alike:
                    for arc in told.values():
                        # What all of an arc have, but for how far in it they stand.
                        self.assertEqual(len({walked.places[name] - each.places[name] for name in lot}), 1)
                        inner = sorted(arc, key=lambda name: round_from(each.places, lot[0]).index(name))
                        for name in arc:
                            self.assertEqual(each.places[name] - inner.index(name),
                                             walked.places[name] - arc.index(name))

    def test_nets_known(self):
        for names, lot, cases in scenes():
            path = Path(names)
            for walked, alike in cases:
                told_arcs = arcs(path, walked.places, lot)
                for one, other in itertools.product(names, repeat=2):
                    nets = [0 if one == other else each.nets[one, other] for each in alike]
                    told = nets_known(path, walked.places, lot, one, other)
                    self.assertTold(told, sorted(set(nets)))
                    in_one = one != other and any(one in arc and other in arc for arc in told_arcs.values())
                    self.assertEqual(len(told), 2 if in_one else 1)
                    for net in told:
                        self.assertEqual(nets.count(net) * len(told), len(nets))

    def test_seams(self):
        for names, lot, cases in scenes():
            path = Path(names)
            for walked, alike in cases:
                seams = [pair for pair in slowly.by_path(names, slowly.moves(walked.places))
                         if pair[0] not in lot and pair[1] not in lot]
                self.assertTold(seams_left(path, walked.places, lot), seams)
                self.assertTold(knows_all(path, walked.places, lot), seams == [])

    def test_with_nets_of_pairs(self):
        for names, lot, cases in scenes():
            path = Path(names)
            pairs = list(itertools.combinations(names, 2))
            for walked, alike in cases[:6]:
                for size in range(min(len(pairs), 3) + 1):
                    for told in itertools.combinations(pairs, size):
                        left = [each for each in alike if all(each.nets[pair] == walked.nets[pair] for pair in told)]
                        for handed in (list(told), [pair[::-1] for pair in told] + [list(pair) for pair in told]):
                            self.assertTold(tells_all(path, walked.places, lot, handed), len(left) == 1)

    def test_fewest(self):
        for many, depth in ((2, 4), (3, 5), (4, 3), (5, 2)):
            names = slowly.names_of(many)
            path = Path(names)
            for walked in slowly.explore(names, depth).values():
                told = fewest_observers(path, walked.places)
                self.assertTold(told, [name for name in names if name in told])
                self.assertEqual(len(told), (many + 1) // 2)
                self.assertTold(knows_all(path, walked.places, told), True)
                for lot in lots(names):
                    if len(lot) < len(told):
                        self.assertTold(knows_all(path, walked.places, lot), False)
                    if len(lot) >= many - 1:
                        self.assertTold(knows_all(path, walked.places, lot), True)
                self.assertTold(fewest_observers(Path(names), walked.places), told)

    def test_two_left_out_do_not_know_all_stands(self):
        for many, depth in ((3, 4), (4, 4)):
            names = slowly.names_of(many)
            near = list(slowly.explore(names, depth).values())
            for lot in itertools.combinations(names, many - 2):
                told = {knows_all(Path(names), walked.places, lot) for walked in near}
                self.assertIn(False, told)

    def test_twenty_far_ones(self):
        names = slowly.many_names(20)
        path = Path(names)
        stand = slowly.far_stand(names, [0] + [(-1) ** index * (10 ** 17 + index) for index in range(19)])
        self.assertTold(arcs(path, stand, ["w3"]), {"w3": round_from(stand, "w3")})
        self.assertTold(count_alike(path, stand, ["w3"]), 121645100408832000)
        self.assertTold(count_alike(path, stand, ["w13", "w3"]), 362880 ** 2)
        told = nets_known(path, stand, ["w19"], "w5", "w6")
        self.assertEqual(told[0] + 1, told[1])
        self.assertIn(slowly.net_by(names, stand, "w5", "w6"), told)
        told = fewest_observers(path, stand)
        self.assertEqual(len(told), 10)
        self.assertTold(knows_all(path, stand, told), True)
        self.assertTold(knows_all(path, stand, told[1:]), False)
        self.assertTold(tells_all(path, stand, told[1:], seams_left(path, stand, told[1:])), True)


class Wrong(ToldCase):
    def test_lots(self):
        calls = [lambda lot: arcs(ABC, STAND, lot), lambda lot: are_alike_for(ABC, STAND, FIRST, lot),
                 lambda lot: count_alike(ABC, STAND, lot), lambda lot: nets_known(ABC, STAND, lot, None, None),
                 lambda lot: seams_left(ABC, STAND, lot), lambda lot: knows_all(ABC, STAND, lot),
                 lambda lot: tells_all(ABC, STAND, lot, None)]
        for work in calls:
            for thing in (None, 1, False, "a", "abc", {"a": 1}, [], (), ABC, len, [None], [["a"]]):
                self.assertRefused(BadLot, {"index": 0}, work, thing)
            for thing, index in ((["a", "a"], 1), (["c", "b", "d"], 2), (["a", "b", "c", "a"], 3), (("b", 7), 1)):
                self.assertRefused(BadLot, {"index": index}, work, thing)
            for thing in ANYTHING:
                if thing not in ("b",):
                    self.assertRefused(BadLot, {"index": 2}, work, ["a", "c", thing, thing])

    def test_pairs(self):
        for thing in (None, 1, False, "ab", {("a", "b"): 1}, ABC, len):
            self.assertRefused(BadPairs, {"index": 0}, tells_all, ABC, STAND, ["a"], thing)
        for thing, index in (([["a", "a"]], 0), ([["a", "b"], ["b"]], 1), ([("a", "b"), ("b", "a"), "ab"], 2),
                             ([("a", "b", "c")], 0), ([("a", "d")], 0), ([("a", "c"), None], 1),
                             ([{"a": 1, "b": 2}], 0)):
            self.assertRefused(BadPairs, {"index": index}, tells_all, ABC, STAND, ["a"], thing)
        for thing in ANYTHING:
            if thing not in (["a", "b"], ("a", "b")):
                self.assertRefused(BadPairs, {"index": 1}, tells_all, ABC, STAND, ["a"], [("a", "b"), thing, 1])

    def test_stands(self):
        none = {"a": 0, "b": 1, "c": 3}
        self.assertRefused(BadStand, {"stand": none}, are_alike_for, ABC, none, FIRST, None)
        self.assertRefused(BadStand, {"stand": none}, are_alike_for, ABC, FIRST, none, None)


class Example(ToldCase):
    def test_the_documents(self):
        self.assertTold(arcs(ABC, STAND, ["a"]), {"a": ["c", "b"]})
        self.assertTold(nets_known(ABC, STAND, ["a"], "b", "c"), [0, 1])
        self.assertTold(seams_left(ABC, STAND, ["a"]), [("c", "b")])
        for lot in (["a", "b"], ["b", "c"], ["c", "a"], ["a", "b", "c"]):
            self.assertTold(knows_all(ABC, STAND, lot), True)


if __name__ == "__main__":
    unittest.main()

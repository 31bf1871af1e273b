"""Section 4 of the document: tables, who overtook whom, fewer walkers, one more."""

import itertools
import unittest

from ringwalkers.errors import BadName, BadNets, BadSome, BadTable
from ringwalkers.paths import Path, first_stand, is_stand
from ringwalkers.tables import (in_all, of_some, one_more_clash, overtaken_by, overtook, stand_of_table, table,
                                table_clash, with_one_more)

from tests import slowly
from tests.anything import ANYTHING
from tests.told import ToldCase

ABC = Path(["a", "b", "c"])
FIRST = {"a": 0, "b": 1, "c": 2}
STAND = {"a": 4, "b": 0, "c": -1}


def table_of(names, above):
    """The table with these nets of each one and each who is later in the order of the names."""
    nets = {}
    for one, other in slowly.all_pairs(names):
        nets[one, other] = above[one, other] if (one, other) in above else -above[other, one]
    return nets


def ahead_pairs(names):
    return list(itertools.combinations(names, 2))


class Tables(ToldCase):
    def test_the_overtakings_on_the_way(self):
        for names, stands in slowly.small_paths():
            path = Path(names)
            for walked in stands:
                nets = {pair: walked.nets[pair] for pair in slowly.all_pairs(names)}
                self.assertTold(table(path, walked.places), nets)
                self.assertTold(stand_of_table(path, walked.nets), walked.places)
                self.assertTold(table_clash(path, walked.nets), None)

    def test_all_small_tables(self):
        for many, most, depth in ((2, 3, 4), (3, 2, 6), (4, 1, 6)):
            names = slowly.names_of(many)
            path = Path(names)
            stands = {tuple(walked.nets.values()): walked.places for walked in slowly.explore(names, depth).values()}
            for values in itertools.product(range(-most, most + 1), repeat=len(ahead_pairs(names))):
                nets = table_of(names, dict(zip(ahead_pairs(names), values)))
                stand = stands.get(tuple(nets.values()))
                self.assertTold(stand_of_table(path, nets), stand)
                self.assertEqual(table_clash(path, nets) is None, stand is not None, nets)
                self.assertTold(table_clash(path, nets), self.slow_clash(names, nets))

    def slow_clash(self, names, nets):
        for one, other in ahead_pairs(names):
            if nets[one, other] != -nets[other, one]:
                return ("turned", one, other)
        for x, y, z in itertools.combinations(names, 3):
            together = nets[x, y] + nets[y, z]
            if nets[x, z] != together and nets[x, z] != together - 1:
                return ("three", x, y, z)
        return None

    def test_tables_that_are_not_turned(self):
        names = ["a", "b", "c"]
        for values in itertools.product(range(-1, 2), repeat=6):
            nets = dict(zip(slowly.all_pairs(names), values))
            self.assertTold(table_clash(ABC, nets), self.slow_clash(names, nets))
            self.assertEqual(stand_of_table(ABC, nets) is None, table_clash(ABC, nets) is not None)

    def test_the_first_clash(self):
        names = ["a", "b", "c", "d"]
        path = Path(names)
        right = table(path, {"a": 9, "b": -2, "c": 3, "d": -4})
        for pair in ahead_pairs(names):
            for change in (-3, 5):
                nets = dict(right)
                nets[pair] += change
                self.assertTold(table_clash(path, nets), ("turned",) + pair)
                nets[pair[::-1]] -= change
                self.assertTold(table_clash(path, nets), self.slow_clash(names, nets))
        nets = dict(right)
        nets["c", "d"] += 1
        nets["a", "d"] += 7
        nets["d", "a"] -= 7
        self.assertTold(table_clash(path, nets), ("turned", "c", "d"))

    def test_far_ones(self):
        for many in (2, 3, 20):
            names = slowly.many_names(many)
            laps = [(-1) ** index * (10 ** 17 - index * index) for index in range(many)]
            stand = slowly.far_stand(names, laps)
            laps[0] -= sum(laps)
            far = dict(zip(names, laps))
            nets = {(one, other): far[one] - far[other] for one, other in slowly.all_pairs(names)}
            self.assertTold(table(Path(names), stand), nets)
            self.assertTold(stand_of_table(Path(names), nets), stand)
            last, before = names[-1], names[-2]
            nets[before, last] += 2
            nets[last, before] -= 2
            if many > 2:
                self.assertTold(table_clash(Path(names), nets), ("three", names[0], before, last))

    def test_what_is_no_table(self):
        right = table(ABC, STAND)
        fewer = {pair: right[pair] for pair in list(right)[1:]}
        wrongs = [{**right, "a": 1}, fewer, {}, list(right), list(right.items())]
        for pair in right:
            for thing in (True, None, "1", [1], (), 1.5):
                wrongs.append({**right, pair: thing})
        wrongs.append({(one, other) if one != "a" else (one, one): 0 for one, other in right})
        wrongs.append({(one, other) if other != "c" else (one, "d"): 0 for one, other in right})
        wrongs.append({**right, ("a", "a"): 0})
        for wrong in wrongs:
            self.assertRefused(BadTable, {"table": wrong}, stand_of_table, ABC, wrong)
            self.assertRefused(BadTable, {"table": wrong}, table_clash, ABC, wrong)


class WhoOvertookWhom(ToldCase):
    def test_the_overtakings_on_the_way(self):
        for names, stands in slowly.small_paths():
            path = Path(names)
            for walked in stands:
                self.assertTold(in_all(path, walked.places), slowly.total(walked))
                self.assertEqual(slowly.total(walked), walked.distance)
                for name in names:
                    by_name = [other for other in names if other != name and walked.nets[name, other] > 0]
                    of_name = [other for other in names if other != name and walked.nets[other, name] > 0]
                    self.assertTold(overtook(path, walked.places, name), by_name)
                    self.assertTold(overtaken_by(path, walked.places, name), of_name)

    def test_whom_they_overtook_and_the_order_of_places(self):
        for names, stands in slowly.small_paths():
            path = Path(names)
            for walked in stands:
                idle = 0
                for one in names:
                    for other in overtook(path, walked.places, one):
                        self.assertLess(walked.places[other], walked.places[one])
                        theirs = overtook(path, walked.places, other)
                        self.assertTrue(set(theirs) <= set(overtook(path, walked.places, one)))
                    idle += overtook(path, walked.places, one) == []
                self.assertGreater(idle, 0)

    def test_far_ones(self):
        names = slowly.many_names(20)
        stand = slowly.far_stand(names, [0] + [10 ** 17] * 10 + [-10 ** 17] * 9)
        # Who is first is a lap of 10 ** 17 behind the nine others, less 10 of them: 10 ** 17 of laps behind.
        laps = {name: stand[name] // 20 for name in names}
        expected = sum(max(0, laps[one] - laps[other]) for one, other in slowly.all_pairs(names))
        self.assertTold(in_all(Path(names), stand), expected)
        self.assertTold(overtook(Path(names), stand, "w5"), ["w0"] + names[11:])
        self.assertTold(overtaken_by(Path(names), stand, "w0"), names[1:11])


class FewerWalkers(ToldCase):
    def test_the_same_nets(self):
        for names, stands in slowly.small_paths():
            path = Path(names)
            near = {}
            for walked in stands:
                for many in range(2, len(names) + 1):
                    for some in itertools.combinations(names, many):
                        told = of_some(path, walked.places, list(some)[::-1])
                        self.assertTold(told[0], Path(list(some)))
                        self.assertIs(type(told), tuple)
                        if some not in near:
                            near[some] = slowly.explore(list(some), 6)
                        there = near[some][slowly.key(told[1])]
                        self.assertTold(told[1], there.places)
                        for pair in slowly.all_pairs(some):
                            self.assertEqual(there.nets[pair], walked.nets[pair])

    def test_all_are_some(self):
        self.assertTold(of_some(ABC, STAND, ("c", "a", "b")), (ABC, STAND))

    def test_twenty(self):
        names = slowly.many_names(20)
        stand = slowly.far_stand(names, [(-1) ** index * 10 ** 18 for index in range(20)])
        path, told = of_some(Path(names), stand, ["w19", "w4", "w3"])
        self.assertTold(path, Path(["w3", "w4", "w19"]))
        self.assertTold(told, {"w3": -2 * 10 ** 18, "w4": 1 + 4 * 10 ** 18, "w19": 2 - 2 * 10 ** 18})

    def test_the_first_wrong_thing(self):
        for thing in ANYTHING + ["d", "w", ("a",)]:
            if thing not in ("a", "b"):
                self.assertRefused(BadSome, {"index": 0}, of_some, ABC, STAND, [thing, "a", "b"])
                self.assertRefused(BadSome, {"index": 1}, of_some, ABC, STAND, ["a", thing, "a"])
                self.assertRefused(BadSome, {"index": 2}, of_some, ABC, STAND, ("a", "b", thing, thing))
            if not isinstance(thing, (list, tuple)):
                self.assertRefused(BadSome, {"index": 0}, of_some, ABC, STAND, thing)

    def test_walkers_who_stood_before(self):
        self.assertRefused(BadSome, {"index": 1}, of_some, ABC, STAND, ["a", "a"])
        self.assertRefused(BadSome, {"index": 2}, of_some, ABC, STAND, ["c", "a", "c", "d"])
        self.assertRefused(BadSome, {"index": 3}, of_some, ABC, STAND, ["c", "a", "b", "a"])

    def test_fewer_than_two(self):
        self.assertRefused(BadSome, {"index": 0}, of_some, ABC, STAND, [])
        self.assertRefused(BadSome, {"index": 1}, of_some, ABC, STAND, ["c"])
        self.assertRefused(BadSome, {"index": 0}, of_some, ABC, STAND, ["d"])


class OneMore(ToldCase):
    def test_all_small_nets(self):
        for many, most, near, far in ((2, 3, 2, 11), (3, 2, 2, 9)):
            names = slowly.names_of(many)
            path = Path(names)
            joined = {}
            for walked in slowly.explore(names + ["new"], far).values():
                joined[tuple(walked.nets.values())] = walked.places
            for walked in slowly.explore(names, near).values():
                for values in itertools.product(range(-most, most + 1), repeat=many):
                    nets = dict(zip(names, values))
                    self.check(path, names, walked, nets, joined)

    def check(self, path, names, walked, nets, joined):
        among = dict(walked.nets)
        for name in names:
            among["new", name] = nets[name]
            among[name, "new"] = -nets[name]
        stand = joined.get(tuple(among[pair] for pair in slowly.all_pairs(names + ["new"])))
        clash = None
        for x, y in reversed(ahead_pairs(names)):
            if nets[x] not in (nets[y] - walked.nets[x, y], nets[y] - walked.nets[x, y] + 1):
                clash = (x, y)
        expected = None if stand is None else (Path(names + ["new"]), stand)
        self.assertTold(with_one_more(path, walked.places, "new", nets), expected)
        self.assertTold(one_more_clash(path, walked.places, "new", nets), clash)
        self.assertEqual(stand is None, clash is not None)

    def test_twenty_and_far(self):
        names = slowly.many_names(20)
        laps = [(-1) ** index * (10 ** 17 + index) for index in range(20)]
        stand = slowly.far_stand(names, laps)
        laps[0] -= sum(laps)
        nets = {name: 10 ** 18 - laps[index] for index, name in enumerate(names)}
        path, told = with_one_more(Path(names), stand, "new", nets)
        self.assertTold(path, Path(names + ["new"]))
        self.assertIs(is_stand(path, told), True)
        there = table(path, told)
        old = table(Path(names), stand)
        for one, other in there:
            if "new" not in (one, other):
                self.assertEqual(there[one, other], old[one, other])
            elif one == "new":
                self.assertEqual(there[one, other], nets[other])
        for index in range(1, 20):
            wrong = dict(nets, **{names[index]: nets[names[index]] + 3})
            self.assertTold(one_more_clash(Path(names), stand, "new", wrong), ("w0", names[index]))
            self.assertTold(with_one_more(Path(names), stand, "new", wrong), None)

    def test_no_new_name(self):
        nets = {"a": 0, "b": 0, "c": 0}
        for work in (with_one_more, one_more_clash):
            for thing in ["a", "b", "c", "A", "", "d d", "1d", "abcdefghi", 4, None, ["d"], ("d",), {"d": 1}]:
                self.assertRefused(BadName, {"name": thing}, work, ABC, FIRST, thing, nets)

    def test_no_nets(self):
        right = {"a": 0, "b": 0, "c": 0}
        wrongs = [{"a": 0, "b": 0}, {**right, "d": 0}, {"a": 0, "b": 0, "d": 0}, [("a", 0)], {}]
        for name in right:
            for thing in (True, False, None, "0", [0]):
                wrongs.append({**right, name: thing})
        for work in (with_one_more, one_more_clash):
            for wrong in wrongs:
                self.assertRefused(BadNets, {"nets": wrong}, work, ABC, FIRST, "d", wrong)
                self.assertRefused(BadName, {"name": "a"}, work, ABC, FIRST, "a", wrong)


class Example(ToldCase):
    def test_the_documents(self):
        nets = table(ABC, STAND)
        self.assertTold(list(nets.values()), [2, 2, -2, 1, -2, -1])
        self.assertTold(in_all(ABC, STAND), 5)
        self.assertTold(overtook(ABC, STAND, "b"), ["c"])
        three = {**nets, ("a", "c"): 3, ("c", "a"): -3}
        stand = stand_of_table(ABC, three)
        self.assertTold(stand, {"a": 5, "b": 0, "c": -2})
        self.assertEqual(table(ABC, stand), three)
        four = {**nets, ("a", "c"): 4, ("c", "a"): -4}
        self.assertTold(stand_of_table(ABC, four), None)
        self.assertTold(table_clash(ABC, four), ("three", "a", "b", "c"))
        self.assertTold(of_some(ABC, STAND, ["a", "c"]), (Path(["a", "c"]), {"a": 2, "c": -1}))
        self.assertTold(one_more_clash(ABC, STAND, "d", {"a": 1, "b": 3, "c": 4}), ("a", "c"))
        self.assertTold(with_one_more(ABC, STAND, "d", {"a": 1, "b": 3, "c": 4}), None)
        self.assertTold(first_stand(ABC), FIRST)


if __name__ == "__main__":
    unittest.main()

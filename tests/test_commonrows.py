"""Section 9 of the document: rows that hold, rows that force."""

import itertools
import random
import unittest

from ringwalkers.commonrows import forcing_row, holding_row, is_forcing_row, is_holding_row
from ringwalkers.commons import common_ring, first_common, last_common
from ringwalkers.errors import BadPath, BadStands, NoCommon, NoWalker, SameWalker
from ringwalkers.paths import Path, net

from tests import slowly
from tests.anything import ANYTHING
from tests.test_commons import great_lists
from tests.told import ToldCase

ABC = Path(["a", "b", "c"])
S = {"a": 2, "b": 1, "c": 0}
T = {"a": 1, "b": 0, "c": 2}
V = {"a": -1, "b": 1, "c": 3}
NONE = {"a": 0, "b": 1, "c": 3}


def left_sum(names, nets, row):
    """LEFT of each next pair of a row, together, as [9.2] tells it."""
    added = 0
    for one, other in zip(row, row[1:]):
        least = min(each[one, other] for each in nets)
        added += max(least, 0) + (1 if names.index(other) < names.index(one) else 0)
    return added


def done_sum(names, nets, row):
    """DONE of each next pair of a row, together, as [9.3] tells it; None where a pair has none."""
    added = 0
    for one, other in zip(row, row[1:]):
        greatest = max(each[one, other] for each in nets)
        if greatest <= 0:
            return None
        added += greatest - 1 + (1 if names.index(other) < names.index(one) else 0)
    return added


def all_rows(names, one, other):
    """All rows of unlike walkers from one to other."""
    rest = [name for name in names if name not in (one, other)]
    return [[one, *between, other] for many in range(len(rest) + 1) for between in itertools.permutations(rest, many)]


def near_lists():
    """Lists of near stands, with their nets."""
    chance = random.Random(4)
    for many, depth, share in ((2, 5, 30), (3, 6, 150), (4, 5, 60), (5, 3, 12)):
        names = slowly.names_of(many)
        near = list(slowly.explore(names, depth).values())
        for _ in range(share):
            walked = chance.choices(near, k=chance.randint(1, 3))
            yield names, [each.places for each in walked], [each.nets for each in walked]


class Rows(ToldCase):
    def test_rows_that_hold(self):
        for names, stands, nets in near_lists():
            path = Path(names)
            last = last_common(path, stands)
            for one, other in slowly.all_pairs(names):
                rows = all_rows(names, one, other)
                least = min(left_sum(names, nets, row) for row in rows)
                told = holding_row(path, stands, one, other)
                self.assertIn(told, rows)
                self.assertEqual(left_sum(names, nets, told), least)
                for row in rows:
                    expected = left_sum(names, nets, row) == least
                    self.assertTold(is_holding_row(path, stands, one, other, row), expected)
                    self.assertTold(is_holding_row(path, tuple(stands), one, other, tuple(row)), expected)
                for row in itertools.permutations(names, 2):
                    expected = row == (one, other) and left_sum(names, nets, row) == least
                    self.assertTold(is_holding_row(path, stands, one, other, row), expected)
                held = least - (1 if names.index(other) < names.index(one) else 0)
                self.assertEqual(max(net(path, last, one, other), 0), max(held, 0))

    def test_rows_that_force(self):
        rings = 0
        for names, stands, nets in near_lists():
            path = Path(names)
            common = first_common(path, stands)
            for one, other in slowly.all_pairs(names):
                if common is None:
                    rings += 1
                    for work in (forcing_row, lambda *args: is_forcing_row(*args, None)):
                        self.assertRefusedTelling(NoCommon, {"ring": common_ring(path, stands)},
                                                  work, path, stands, one, other)
                    continue
                self.check_forcing(names, path, stands, nets, common, one, other)
        self.assertGreater(rings, 50)

    def check_forcing(self, names, path, stands, nets, common, one, other):
        rows = all_rows(names, one, other)
        sums = [done_sum(names, nets, row) for row in rows]
        greatest = max([each for each in sums if each is not None], default=None)
        told = forcing_row(path, stands, one, other)
        if greatest is None:
            self.assertIsNone(told)
            self.assertLessEqual(net(path, common, one, other), 0)
        else:
            self.assertIn(told, rows)
            self.assertEqual(done_sum(names, nets, told), greatest)
            forced = greatest + 1 - (1 if names.index(other) < names.index(one) else 0)
            self.assertEqual(net(path, common, one, other), forced)
        for row in itertools.permutations(names, 2):
            expected = row == (one, other) and done_sum(names, nets, row) == greatest is not None
            self.assertTold(is_forcing_row(path, stands, one, other, row), expected)
        for row, added in zip(rows, sums):
            expected = added is not None and added == greatest
            self.assertTold(is_forcing_row(path, stands, one, other, row), expected)

    def test_great_nets(self):
        for seed in range(3):
            for names, stands in great_lists(seed):
                path = Path(names)
                nets = [{pair: slowly.net_by(names, stand, *pair) for pair in slowly.all_pairs(names)}
                        for stand in stands]
                last = last_common(path, stands)
                common = first_common(path, stands)
                for one, other in slowly.all_pairs(names)[::7]:
                    behind = 1 if names.index(other) < names.index(one) else 0
                    row = holding_row(path, stands, one, other)
                    self.assertTold(is_holding_row(path, stands, one, other, row), True)
                    held = left_sum(names, nets, row) - behind
                    self.assertEqual(max(held, 0), max(slowly.net_by(names, last, one, other), 0))
                    if common is not None:
                        row = forcing_row(path, stands, one, other)
                        forced = slowly.net_by(names, common, one, other)
                        if row is None:
                            self.assertLessEqual(forced, 0)
                        else:
                            self.assertEqual(done_sum(names, nets, row) + 1 - behind, forced)
                            self.assertTold(is_forcing_row(path, stands, one, other, row), True)


class Wrong(ToldCase):
    WORKS = [holding_row, forcing_row, lambda *args: is_holding_row(*args, ["a", "b"]),
             lambda *args: is_forcing_row(*args, ["a", "b"])]

    def test_wrong_walkers(self):
        for work in self.WORKS:
            for thing in ANYTHING:
                if thing not in ("a", "b"):
                    self.assertRefused(NoWalker, {"walker": thing}, work, ABC, [S, V], thing, None)
                    self.assertRefused(NoWalker, {"walker": thing}, work, ABC, [S, V], "a", thing)
            for walker in "abc":
                self.assertRefused(SameWalker, {"walker": walker}, work, ABC, [S, V], walker, walker)
                self.assertRefused(SameWalker, {"walker": walker}, work, ABC, [S], walker, walker)

    def test_order_of_errors(self):
        for work in self.WORKS:
            self.assertRefused(BadPath, {"thing": None}, work, None, [], "a", "a")
            self.assertRefused(BadStands, {"index": 0}, work, ABC, [], "d", "d")
            self.assertRefused(BadStands, {"index": 1}, work, ABC, [S, NONE], "d", "d")
            self.assertRefused(NoWalker, {"walker": "d"}, work, ABC, [S, V], "d", "d")
            self.assertRefused(NoWalker, {"walker": "e"}, work, ABC, [S, V], "a", "e")

    def test_a_ring_is_no_matter_where_it_is_held(self):
        self.assertTold(holding_row(ABC, [S, V], "a", "b"), ["a", "b"])
        ring = common_ring(ABC, [S, V])
        self.assertRefusedTelling(NoCommon, {"ring": ring}, forcing_row, ABC, [S, V], "a", "b")
        self.assertRefusedTelling(NoCommon, {"ring": ring}, is_forcing_row, ABC, [S, V], "a", "b", ["a", "b"])

    def test_no_row(self):
        wrongs = [["a"], ["b", "a"], ["a", "c"], ["a", "a", "b"], ["a", "b", "b"], ["a", "b", "a", "b"], [],
                  ["a", "d", "b"], ["a", ["b"]], ["a", None], "ab", {"a": "b"}, [("a", "b")], ["a", "b", "c"], None,
                  ["a", "b", 1], [True, "b"]]
        for wrong in wrongs:
            self.assertTold(is_holding_row(ABC, [S, T], "a", "b", wrong), False)
            self.assertTold(is_forcing_row(ABC, [S, T], "a", "b", wrong), False)
        for right in (["a", "b"], ("a", "b")):
            self.assertTold(is_holding_row(ABC, [S, T], "a", "b", right), True)
            self.assertTold(is_forcing_row(ABC, [S, T], "a", "b", right), True)
        for thing in ANYTHING:
            expected = thing in (["a", "b"], ("a", "b"))
            self.assertTold(is_holding_row(ABC, [S, T], "a", "b", thing), expected)
            self.assertTold(is_forcing_row(ABC, [S, T], "a", "b", thing), expected)
            if thing != "b":
                self.assertTold(is_holding_row(ABC, [S], "a", "c", ["a", thing, "c"]), False)
                self.assertTold(is_forcing_row(ABC, [S], "a", "c", ["a", thing, "c"]), False)

    def test_no_row_forces(self):
        self.assertTold(forcing_row(ABC, [T], "b", "c"), None)
        self.assertTold(forcing_row(ABC, [T], "b", "a"), None)
        self.assertTold(is_forcing_row(ABC, [T], "b", "a", ["b", "a"]), False)


class Example(ToldCase):
    def test_the_documents(self):
        self.assertTold(holding_row(ABC, [S, T], "b", "c"), ["b", "c"])
        self.assertTold(is_holding_row(ABC, [S, T], "b", "c", ["b", "c"]), True)


if __name__ == "__main__":
    unittest.main()

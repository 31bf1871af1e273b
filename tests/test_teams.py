"""Section 18 of the document: teams, walkers gathered, another one first."""

import itertools
import unittest

from ringwalkers.errors import BadStand, NoWalker
from ringwalkers.madenumbers import numbers_made
from ringwalkers.paths import Path, is_stand
from ringwalkers.refusals import BadNames, BadPieces
from ringwalkers.teams import begun_with, gathered, spread, team_clash

from tests import slowly
from tests.anything import ANYTHING
from tests.told import ToldCase

ABC = Path(["a", "b", "c"])
STAND = {"a": 4, "b": 0, "c": -1}
FIRST = {"a": 0, "b": 1, "c": 2}
SIZES = {2: [(1, 1), (2, 1), (1, 3), (2, 2)], 3: [(1, 1, 1), (2, 1, 1), (1, 1, 2), (1, 3, 1)], 4: [(1, 2, 1, 1)]}


def team_names(names, sizes):
    return {name: [name + str(index) for index in range(size)] for name, size in zip(names, sizes)}


def cuts(names):
    """All ways to cut the names into two pieces or more."""
    for marks in itertools.product((False, True), repeat=len(names) - 1):
        pieces = [[names[0]]]
        for name, mark in zip(names[1:], marks):
            if mark:
                pieces.append([name])
            else:
                pieces[-1].append(name)
        if len(pieces) > 1:
            yield pieces


class Spread(ToldCase):
    def test_small_paths(self):
        for many, depth in ((2, 4), (3, 3), (4, 2)):
            names = slowly.names_of(many)
            near = slowly.explore(names, depth).values()
            for sizes in SIZES[many]:
                teams = team_names(names, sizes)
                row = [each for name in names for each in teams[name]]
                leader = {each: name for name in names for each in teams[name]}
                pairs = slowly.all_pairs(row)
                meant = {tuple(walked.nets[pair] for pair in pairs): walked
                         for walked in slowly.explore(row, 12 if len(row) < 5 else 9).values()}
                for walked in near:
                    nets = tuple(walked.nets.get((leader[one], leader[other]), 0) for one, other in pairs)
                    if sum(map(abs, nets)) // 2 <= (12 if len(row) < 5 else 9):
                        told = spread(Path(names), walked.places, teams)
                        self.assertTold(told, (Path(row), meant[nets].places))

    def test_who_made_how_many(self):
        for names, near in slowly.small_paths():
            path = Path(names)
            teams = {name: [name + sign for sign in "xyz"[:1 + index % 3]] for index, name in enumerate(names)}
            for walked in near:
                made = numbers_made(*spread(path, walked.places, teams))
                for name in names:
                    expected = sum(max(walked.nets[name, other], 0) * len(teams[other])
                                   for other in names if other != name)
                    for each in teams[name]:
                        self.assertEqual(made[each], expected)

    def test_far_ones(self):
        names = slowly.many_names(5)
        stand = slowly.far_stand(names, [0, 10 ** 17, -10 ** 17, 7, 3 * 10 ** 17])
        teams = {name: tuple(name + sign for sign in "abcd") for name in names[::-1]}
        path, told = spread(Path(names), stand, teams)
        row = [each for name in names for each in teams[name]]
        self.assertEqual(path.walkers(), row)
        self.assertEqual(list(told), row)
        self.assertTrue(is_stand(path, told))
        for one, other in slowly.all_pairs(row):
            expected = 0 if one[:2] == other[:2] else slowly.net_by(names, stand, one[:2], other[:2])
            self.assertEqual(slowly.net_by(row, told, one, other), expected)

    def test_wrong_names(self):
        good = {"a": ["x"], "b": ["y"], "c": ["z", "a"]}
        self.assertEqual(spread(ABC, STAND, good)[0].walkers(), ["x", "y", "z", "a"])
        self.assertEqual(spread(ABC, FIRST, good)[1], {"x": 0, "y": 1, "z": 2, "a": 3})
        bad = [dict(good, a=[]), dict(good, a="x"), dict(good, a=["y"]), dict(good, a=["x", "x"]), dict(good, a=["X"]),
               dict(good, a=["ninechars"]), dict(good, a=[None]), dict(good, a=[["x"]]), dict(good, a={"x": 1}),
               dict(good, a=None), dict(good, d=["d"]), {"a": ["x"], "b": ["y"]}, {"a": ["x"], "b": ["y"], "d": ["z"]},
               [["x"], ["y"], ["z"]]]
        for thing in ANYTHING + bad:
            self.assertRefused(BadNames, {"names": thing}, spread, ABC, STAND, thing)
        self.assertRefused(BadStand, {"stand": None}, spread, ABC, None, None)


class Gathered(ToldCase):
    def test_near_stands(self):
        counts = {"met": 0, "unlike": 0, None: 0}
        for names, near in slowly.small_paths():
            path = Path(names)
            for pieces in cuts(names):
                for walked in near:
                    clash = self.clash(names, walked, pieces)
                    counts[clash and clash[0]] += 1
                    self.assertTold(team_clash(path, walked.places, pieces), clash)
                    told = gathered(path, walked.places, [tuple(piece) for piece in pieces])
                    if clash is not None:
                        self.assertIsNone(told)
                        continue
                    leaders = [piece[0] for piece in pieces]
                    self.assertEqual(told[0].walkers(), leaders)
                    self.assertEqual(list(told[1]), leaders)
                    back = spread(*told, {piece[0]: piece for piece in pieces})
                    self.assertTold(back, (path, walked.places))
        self.assertGreater(min(counts.values()), 100)

    def clash(self, names, walked, pieces):
        for one, other in zip(names, names[1:]):
            if any(one in piece and other in piece for piece in pieces):
                if walked.nets[one, other] != 0:
                    return "met", one, other
                for third in names:
                    if third not in (one, other) and walked.nets[one, third] != walked.nets[other, third]:
                        return "unlike", one, other, third
        return None

    def test_of_what_was_spread(self):
        for names, near in slowly.small_paths():
            path = Path(names)
            teams = {name: [name + sign for sign in "xyz"[:1 + index % 3]] for index, name in enumerate(names)}
            for walked in near:
                longer, stand = spread(path, walked.places, teams)
                pieces = [teams[name] for name in names]
                self.assertIsNone(team_clash(longer, stand, pieces))
                _, told = gathered(longer, stand, pieces)
                self.assertEqual(list(told.values()), list(walked.places.values()))

    def test_wrong_pieces(self):
        cases = [(None, 0), (3, 0), (True, 0), ("abc", 0), ({0: ["a", "b"], 1: ["c"]}, 0), (ABC, 0), ([], 0),
                 ([["a", "b", "c"]], 1), ([["a"]], 1), ([["a"], ["b"]], 2), ([[], ["a", "b", "c"]], 0),
                 ([["a"], [], ["b", "c"]], 1), ([["a"], ["b", "c"], []], 2), ([["a"], ["c", "b"]], 1),
                 ([["a", "b"], "c"], 1), (["a", "b", "c"], 0), ([["a", "b"], ["c"], ["a"]], 2),
                 ([["a", "b"], ["c", "a"]], 1), ([["b"], ["a", "c"]], 0), ([["a"], ["b", None]], 1),
                 ([("a",), {"b": 1, "c": 1}], 1), ([["a", "b"], ["b", "c"]], 1)]
        for work in (gathered, team_clash):
            for thing, index in cases:
                self.assertRefused(BadPieces, {"index": index}, work, ABC, FIRST, thing)
            for thing in ANYTHING:
                self.assertRefused(BadPieces, {"index": 1}, work, ABC, FIRST, [["a", "b"], thing])
                self.assertRefused(BadPieces, {"index": 1}, work, ABC, FIRST, [["a"], ["b", thing, "c"]])
            self.assertRefused(BadStand, {"stand": None}, work, ABC, None, None)


class AnotherFirst(ToldCase):
    def test_near_stands(self):
        for many, depth in ((2, 5), (3, 5), (4, 3)):
            names = slowly.names_of(many)
            near = slowly.explore(names, depth).values()
            for index, walker in enumerate(names):
                row = names[index:] + names[:index]
                pairs = slowly.all_pairs(names)
                meant = {tuple(walked.nets[pair] for pair in pairs): walked.places
                         for walked in slowly.explore(row, depth).values()}
                for walked in near:
                    told = begun_with(Path(names), walked.places, walker)
                    self.assertTold(told, (Path(row), meant[tuple(walked.nets[pair] for pair in pairs)]))
                    self.assertTold(begun_with(*told, names[0]), (Path(names), walked.places))

    def test_far_ones(self):
        names = slowly.many_names(20)
        stand = slowly.far_stand(names, [0] + [(-1) ** index * (10 ** 18 + index) for index in range(19)])
        path, told = begun_with(Path(names), stand, "w7")
        row = names[7:] + names[:7]
        self.assertEqual(path.walkers(), row)
        self.assertEqual(list(told), row)
        self.assertTrue(is_stand(path, told))
        for one, other in slowly.all_pairs(names):
            self.assertEqual(slowly.net_by(row, told, one, other), slowly.net_by(names, stand, one, other))

    def test_wrong_walkers(self):
        for thing in ANYTHING:
            if thing not in ("a", "b", "c"):
                self.assertRefused(NoWalker, {"walker": thing}, begun_with, ABC, STAND, thing)


class Example(ToldCase):
    def test_the_documents(self):
        made = numbers_made(*spread(ABC, {"a": 2, "b": 1, "c": 0}, {"a": ["a", "e"], "b": ["b"], "c": ["c"]}))
        self.assertEqual(made, {"a": 2, "e": 2, "b": 1, "c": 0})


if __name__ == "__main__":
    unittest.main()

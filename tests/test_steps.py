"""Section 7 of the document: which step comes ahead of which, and shortest runs counted."""

import itertools
import unittest

from ringwalkers.errors import BadStand, BadStep
from ringwalkers.paths import Path, first_stand, net, turned
from ringwalkers.shortestruns import fewest, is_between
from ringwalkers.steps import count_runs, goes_ahead, runs_between, shown_behind

from tests import slowly
from tests.anything import ANYTHING
from tests.told import ToldCase

ABC = Path(["a", "b", "c"])
FIRST = {"a": 0, "b": 1, "c": 2}
STAND = {"a": 4, "b": 0, "c": -1}


def steps_of(begun, run):
    """The overtakings of a run, each with the number to which it brings the net."""
    nets = dict(begun.nets)
    steps = []
    for one, other in run:
        nets[one, other] += 1
        nets[other, one] -= 1
        steps.append((one, other, nets[one, other]))
    return steps


class WhatComesAhead(ToldCase):
    def test_near_stands(self):
        for names, begun, walked, runs in slowly.near_pairs_with_runs():
            if len(names) == 2 or begun.distance == 2 or len(names) == 5:
                self.check(names, begun, walked, runs)

    def test_farther_stands(self):
        for names, depth in ((["a", "b", "c"], 7), (["a", "b", "c", "d"], 5)):
            for begun in list(slowly.explore(names, 1).values())[:2]:
                for walked in slowly.explore(names, depth, begun.places).values():
                    if walked.distance == depth and sum(walked.places.values()) * walked.places["a"] % 3 == 0:
                        self.check(names, begun, walked, slowly.shortest_runs(names, begun.places, walked.places))

    def check(self, names, begun, walked, runs):
        path = Path(names)
        told_by_run = [steps_of(begun, run) for run in runs]
        steps = told_by_run[0]
        self.assertEqual({tuple(sorted(told)) for told in told_by_run}, {tuple(sorted(steps))})
        way = slowly.stands_on(begun.places, runs)
        for step, another in itertools.product(steps, repeat=2):
            expected = step != another and all(told.index(step) < told.index(another) for told in told_by_run)
            self.assertTold(goes_ahead(path, begun.places, walked.places, step, another), expected)
            self.assertTold(goes_ahead(path, begun.places, walked.places, list(step), another), expected)
            shown = shown_behind(path, begun.places, walked.places, step, another)
            if step == another:
                self.assertIsNone(shown)
            else:
                self.assertEqual(shown is None, expected)
            if shown is not None:
                self.assertEqual(list(shown), names)
                self.assertIn(slowly.key(shown), way)
                self.assertLess(net(path, shown, *step[:2]), step[2])
                self.assertGreaterEqual(net(path, shown, *another[:2]), another[2])

    def test_great_numbers(self):
        names = slowly.many_names(20)
        path = Path(names)
        stand = slowly.far_stand(names, [0] + [10 ** 15 * (-1) ** index for index in range(19)])
        later = slowly.far_stand(names, [0] + [10 ** 18 * (index - 9) for index in range(19)])
        nets = {pair: (net(path, stand, *pair), net(path, later, *pair)) for pair in slowly.all_pairs(names)}
        pairs = [pair for pair in nets if nets[pair][0] < nets[pair][1]][::23]
        for turn, (one, other) in enumerate(itertools.product(pairs, repeat=2)):
            low, high = nets[one]
            step = one + (low + 1 + (high - low) * (turn % 5) // 5,)
            low, high = nets[other]
            another = other + (low + 1 + (high - low) * (turn % 7) // 7,)
            shown = shown_behind(path, stand, later, step, another)
            self.assertTold(goes_ahead(path, stand, later, step, another), shown is None and step != another)
            if one == other:
                self.assertEqual(shown is None, step[2] <= another[2])
            if shown is not None:
                self.assertTold(is_between(path, stand, later, shown), True)
                self.assertLess(net(path, shown, *one), step[2])
                self.assertGreaterEqual(net(path, shown, *other), another[2])

    def test_rounds_of_one(self):
        far = {"a": 2 * 10 ** 18, "b": 1 - 10 ** 18, "c": 2 - 10 ** 18}
        for number in (2, 10 ** 9, 10 ** 18):
            self.assertTold(goes_ahead(ABC, FIRST, far, ("a", "b", number - 1), ("a", "c", number)), True)
            self.assertTold(goes_ahead(ABC, FIRST, far, ("a", "b", number), ("a", "c", number)), True)
            self.assertTold(goes_ahead(ABC, FIRST, far, ("a", "c", number - 1), ("a", "b", number)), True)
            self.assertTold(goes_ahead(ABC, FIRST, far, ("a", "c", number), ("a", "b", number)), False)
            self.assertTold(shown_behind(ABC, FIRST, far, ("a", "c", number), ("a", "b", number)),
                            {"a": 2 * number - 1, "b": 1 - number, "c": 2 - (number - 1)})

    def test_no_step(self):
        right = ("a", "b", 1)
        wrongs = [("a", "b", 0), ("a", "b", 3), ("a", "b", -1), ("b", "a", 1), ("b", "a", 0), ("b", "a", -1),
                  ("b", "c", 2), ("a", "a", 1), ("a", "a", 0), ("a", "d", 1), ("d", "a", 1), ("a", "b", True),
                  ("a", "b", "1"),
                  ("a", "b", None), ("a", "b", [1]), (["a"], "b", 1), ("a", {"b": 1}, 1), ("a", "b"), ("a", "b", 1, 1),
                  "ab1", ("ab", 1), (("a", "b"), 1), {"a": "b"}, 10 ** 18]
        for wrong in wrongs + [thing for thing in ANYTHING if thing != right or thing[2] is True]:
            for work in (goes_ahead, shown_behind):
                self.assertRefused(BadStep, {"step": wrong}, work, ABC, FIRST, STAND, wrong, right)
                self.assertRefused(BadStep, {"step": wrong}, work, ABC, FIRST, STAND, right, wrong)
                self.assertRefused(BadStep, {"step": wrong}, work, ABC, FIRST, STAND, wrong, None)
                self.assertRefused(BadStep, {"step": wrong}, work, ABC, FIRST, STAND, wrong, wrong)

    def test_steps_are_counted_from_the_first_stand(self):
        begin = {"a": 2, "b": 1, "c": 0}
        self.assertTold(goes_ahead(ABC, begin, STAND, ("a", "c", 2), ("a", "b", 2)), True)
        for wrong in (("a", "c", 1), ("a", "b", 1), ("b", "c", 1), ("a", "b", 3)):
            self.assertRefused(BadStep, {"step": wrong}, goes_ahead, ABC, begin, STAND, wrong, ("a", "b", 2))
        self.assertTold(goes_ahead(ABC, STAND, begin, ("b", "a", -1), ("c", "a", -1)), True)

    def test_wrong_stands_go_first(self):
        none = {"a": 0, "b": 1, "c": 3}
        for work in (goes_ahead, shown_behind):
            self.assertRefused(BadStand, {"stand": none}, work, ABC, none, None, None, None)
            self.assertRefused(BadStand, {"stand": none}, work, ABC, FIRST, none, None, None)


class Counted(ToldCase):
    def test_near_stands(self):
        for names, begun, walked, runs in slowly.near_pairs_with_runs():
            path = Path(names)
            self.assertTold(runs_between(path, begun.places, walked.places), runs)
            self.assertTold(count_runs(path, begun.places, walked.places), len(runs))

    def test_by_the_order_of_the_path(self):
        path = Path(["c", "a", "b"])
        stand = {"c": 4, "a": 0, "b": -1}
        runs = runs_between(path, first_stand(path), stand)
        self.assertTold(runs, slowly.shortest_runs(["c", "a", "b"], first_stand(path), stand))
        self.assertTold([run[0] for run in runs], [("c", "a"), ("c", "a"), ("a", "b")])

    def test_five_walkers_and_ten_overtakings(self):
        names = slowly.names_of(5)
        path = Path(names)
        first = first_stand(path)
        near = slowly.explore(names, 10)
        goals = [walked for walked in near.values() if walked.distance == 10]
        for walked in goals[::150] + goals[-3:]:
            self.assertEqual(fewest(path, first, walked.places), 10)
            runs = runs_between(path, first, walked.places)
            self.assertTold(count_runs(path, first, walked.places), len(runs))
            keyed = [[tuple(names.index(name) for name in pair) for pair in run] for run in runs]
            self.assertEqual(keyed, sorted(keyed))
            self.assertEqual(len({tuple(run) for run in keyed}), len(keyed))
            self.assertEqual(self.ways(first, walked.places, near), len(runs))
            self.assertTold(count_runs(path, walked.places, first), len(runs))
            back, stand = turned(path, walked.places)
            self.assertTold(count_runs(back, turned(path, first)[1], stand), len(runs))

    def ways(self, places, goal, near):
        """How many shortest runs there are, by going back from the goal level by level."""
        ways = {slowly.key(goal): 1}
        for distance in range(9, -1, -1):
            behind = {}
            for reached, many in ways.items():
                now = dict(zip(places, reached))
                for one, other in slowly.moves(now):
                    ahead = slowly.key(slowly.moved(now, one, other))
                    if ahead in near and near[ahead].distance == distance:
                        behind[ahead] = behind.get(ahead, 0) + many
            ways = behind
        return ways[slowly.key(places)]

    def test_none_to_do(self):
        names = slowly.many_names(20)
        stand = slowly.far_stand(names, [(-1) ** index * 10 ** 17 for index in range(20)])
        self.assertTold(count_runs(Path(names), stand, dict(stand)), 1)
        self.assertTold(runs_between(Path(names), stand, dict(stand)), [[]])

    def test_wrong_stands(self):
        none = {"a": 0, "b": 1, "c": 3}
        for work in (count_runs, runs_between):
            self.assertRefused(BadStand, {"stand": none}, work, ABC, none, {})
            self.assertRefused(BadStand, {"stand": none}, work, ABC, FIRST, none)


class Example(ToldCase):
    def test_the_documents(self):
        self.assertTold(goes_ahead(ABC, FIRST, STAND, ("a", "c", 1), ("a", "b", 2)), True)
        self.assertTold(goes_ahead(ABC, FIRST, STAND, ("a", "b", 1), ("b", "c", 1)), False)
        shown = shown_behind(ABC, FIRST, STAND, ("a", "b", 1), ("b", "c", 1))
        self.assertTrue(shown in ({"a": 0, "b": 2, "c": 1}, {"a": 1, "b": 2, "c": 0}))
        self.assertTold(count_runs(ABC, FIRST, STAND), 3)


if __name__ == "__main__":
    unittest.main()

"""Section 7 of the document: shortest runs, their first and last overtakings, blocks, stands on the way."""

import unittest

from ringwalkers.errors import BadMany, BadStand
from ringwalkers.madenumbers import stand_of_made, stand_of_suffered
from ringwalkers.paths import Path, first_stand, net
from ringwalkers.runs import blocks_end, is_one_way, run_end
from ringwalkers.shortestruns import (fewest, first_ones, is_between, is_shortest, last_ones, shortest_run,
                                      stand_after)

from tests import slowly
from tests.anything import ANYTHING
from tests.told import ToldCase

ABC = Path(["a", "b", "c"])
FIRST = {"a": 0, "b": 1, "c": 2}
STAND = {"a": 4, "b": 0, "c": -1}
FAR = {"a": 2002, "b": -999, "c": -1000}


def great_stands():
    """Twenty walkers, pairs of stands however far."""
    names = slowly.many_names(20)
    path = Path(names)
    for turn in range(12):
        size = [4, 40, 400, 10 ** 9, 10 ** 17, 10 ** 18][turn % 6]
        made = {name: pow(5, 7 + turn + index * (turn + 2), 10 ** 9 + 7) * size // 10 ** 9
                for index, name in enumerate(names)}
        made[names[turn]] = 0
        suffered = {name: pow(3, 5 + index * (turn + 4), 10 ** 9 + 7) * size // 10 ** 9
                    for index, name in enumerate(names)}
        suffered[names[19 - turn]] = 0
        yield names, path, stand_of_made(path, made), stand_of_suffered(path, suffered)


def far_between(names, path, stand, later):
    return sum(abs(net(path, later, one, other) - net(path, stand, one, other))
               for one, other in slowly.all_pairs(names)) // 2


class Fewest(ToldCase):
    def test_near_stands(self):
        for names, begun, walked in slowly.near_pairs():
            self.assertTold(fewest(Path(names), begun.places, walked.places), walked.distance)
            self.assertTold(fewest(Path(names), walked.places, begun.places), walked.distance)

    def test_shortest_just_if_one_way(self):
        for names, depth in ((["a", "b"], 4), (["a", "b", "c"], 4)):
            path = Path(names)
            for start in ({"a": 0, "b": 1, "c": 2}, {"a": 5, "b": 1, "c": -3}):
                start = {name: start[name] for name in names}
                if len(names) == 2:
                    start["b"] = 1 - start["a"]
                level = [([], start)]
                for _ in range(depth):
                    level = [(run + [pair], slowly.moved(now, *pair))
                             for run, now in level for pair in slowly.moves(now)]
                    for run, now in level:
                        self.assertEqual(is_one_way(path, run), fewest(path, start, now) == len(run))

    def test_great_stands(self):
        for names, path, stand, later in great_stands():
            self.assertTold(fewest(path, stand, later), far_between(names, path, stand, later))


class AnyOrder(ToldCase):
    def test_near_stands(self):
        for names, begun, walked, runs in slowly.near_pairs_with_runs():
            path = Path(names)
            begins = slowly.by_path(names, {run[0] for run in runs if run})
            ends = slowly.by_path(names, {run[-1] for run in runs if run})
            self.assertTold(first_ones(path, begun.places, walked.places), begins)
            self.assertTold(last_ones(path, begun.places, walked.places), ends)
            self.assertEqual(walked.distance == 0, begins == [])
            self.assertEqual(walked.distance == 0, ends == [])

    def test_great_stands(self):
        for names, path, stand, later in great_stands():
            grown = {(one, other): net(path, later, one, other) - net(path, stand, one, other)
                     for one, other in slowly.all_pairs(names)}
            begins = [pair for pair in slowly.moves(stand) if grown[pair] > 0]
            ends = [pair for pair in slowly.all_pairs(names) if pair[::-1] in slowly.moves(later) and grown[pair] > 0]
            self.assertTold(first_ones(path, stand, later), slowly.by_path(names, begins))
            self.assertTold(last_ones(path, stand, later), slowly.by_path(names, ends))


class Blocks(ToldCase):
    def check(self, names, path, stand, later):
        told = shortest_run(path, stand, later)
        self.assertIs(type(told), list)
        for block in told:
            self.assertIs(type(block), tuple)
            run, times = block
            self.assertIs(type(run), list)
            self.assertTrue(all(type(pair) is tuple for pair in run))
            self.assertIs(type(times), int)
            self.assertGreaterEqual(times, 1)
            self.assertGreater(len(run), 0)
        self.assertEqual(blocks_end(path, stand, told), later)
        self.assertEqual(sum(len(run) * times for run, times in told), far_between(names, path, stand, later))
        self.assertTrue(is_one_way(path, [pair for run, _ in told for pair in run]))
        self.assertLessEqual(len(told), len(names))
        self.assertTold(is_shortest(path, stand, later, told), True)
        self.assertTold(is_shortest(path, stand, later, tuple((tuple(run), times) for run, times in told)), True)
        self.assertTold(shortest_run(Path(names), dict(reversed(list(stand.items()))), dict(later)), told)
        return told

    def test_near_stands(self):
        for names, begun, walked in slowly.near_pairs():
            told = self.check(names, Path(names), begun.places, walked.places)
            self.assertEqual(told == [], walked.distance == 0)

    def test_great_stands(self):
        for names, path, stand, later in great_stands():
            self.check(names, path, stand, later)
            self.check(names, path, later, stand)
            self.assertTold(shortest_run(path, stand, dict(stand)), [])

    def test_far_rounds(self):
        names = slowly.many_names(20)
        path = Path(names)
        laps = [(-1) ** index * (10 ** 17 - index ** 3) for index in range(20)]
        far = slowly.far_stand(names, laps)
        self.check(names, path, first_stand(path), far)
        two = Path(["a", "b"])
        self.check(["a", "b"], two, {"a": -10 ** 18, "b": 1 + 10 ** 18}, {"a": 10 ** 18 + 1, "b": -10 ** 18})
        self.check(["a", "b", "c"], ABC, FIRST, FAR)
        self.check(["a", "b", "c"], ABC, FAR, STAND)

    def test_what_is_shortest(self):
        right = shortest_run(ABC, FIRST, STAND)
        unrolled = [([pair], 1) for run, times in right for pair in run * times]
        self.assertTold(is_shortest(ABC, FIRST, STAND, unrolled), True)
        self.assertTold(is_shortest(ABC, FIRST, STAND, [([], 7)] + unrolled + [([], 1)]), True)
        self.assertTold(is_shortest(ABC, FIRST, STAND, unrolled[:-1]), False)
        self.assertTold(is_shortest(ABC, FIRST, FIRST, unrolled), False)
        self.assertTold(is_shortest(ABC, FIRST, FIRST, []), True)
        self.assertTold(is_shortest(ABC, FIRST, {"c": 2, "b": 1, "a": 0}, ()), True)
        self.assertTold(is_shortest(ABC, FIRST, STAND, []), False)
        self.assertTold(is_shortest(ABC, STAND, FIRST, unrolled), False)
        self.assertTold(is_shortest(ABC, FIRST, STAND, [(run, times, 1) for run, times in right]), False)
        self.assertTold(is_shortest(ABC, FIRST, STAND, unrolled + [([("b", "c")], 0)]), False)

    def test_nobody_goes_both_ways(self):
        there_and_back = [([("a", "b")], 1), ([("b", "a")], 1)]
        self.assertTold(is_shortest(ABC, FIRST, FIRST, there_and_back), False)
        self.assertTold(is_shortest(ABC, FIRST, FIRST, [([("a", "b"), ("b", "a")], 1)]), False)
        self.assertTold(is_shortest(ABC, FIRST, {"a": 1, "b": 0, "c": 2}, [([("a", "b")], 1)]), True)
        self.assertTold(is_shortest(ABC, FIRST, {"a": 1, "b": 0, "c": 2}, there_and_back + [([("a", "b")], 1)]), False)
        two = Path(["a", "b"])
        self.assertTold(is_shortest(two, {"a": 0, "b": 1}, {"a": 5, "b": -4}, [([("a", "b")], 5)]), True)
        self.assertTold(is_shortest(two, {"a": 0, "b": 1}, {"a": 5, "b": -4},
                                    [([("a", "b")], 6), ([("b", "a")], 1)]), False)
        self.assertTold(is_shortest(two, {"a": 0, "b": 1}, {"a": 5, "b": -4}, [([("a", "b")], 4)]), False)

    def test_any_object(self):
        for thing in ANYTHING:
            self.assertTold(is_shortest(ABC, FIRST, STAND, thing), False)
            if thing not in ([], (), [([], 1)]):
                self.assertTold(is_shortest(ABC, FIRST, FIRST, thing), False)
                self.assertTold(is_shortest(ABC, FIRST, {"a": 1, "b": 0, "c": 2}, [([("a", "b")], 1), thing]), False)

    def test_all_short_block_lists(self):
        goal = {"a": 4, "b": 0, "c": -1}
        runs = slowly.shortest_runs(["a", "b", "c"], FIRST, goal)
        for start, end in ((FIRST, goal), (FIRST, {"a": 1, "b": 0, "c": 2})):
            level = [([], start)]
            for _ in range(5):
                level = [(run + [pair], slowly.moved(now, *pair)) for run, now in level for pair in slowly.moves(now)]
                for run, now in level:
                    expected = now == end and len(run) == fewest(ABC, start, end)
                    self.assertTold(is_shortest(ABC, start, end, [(run[:2], 1), (run[2:], 1)]), expected)
                    if end == goal:
                        self.assertEqual(run in runs, expected)


class OnTheWay(ToldCase):
    def test_near_stands(self):
        for names, begun, walked, runs in slowly.near_pairs_with_runs():
            if walked.distance > 3:
                continue
            path = Path(names)
            way = slowly.stands_on(begun.places, runs)
            for mid in slowly.explore(names, 2, walked.places).values():
                expected = slowly.key(mid.places) in way
                self.assertTold(is_between(path, begun.places, walked.places, mid.places), expected)
                lies = all(sorted([begun.nets[pair], begun.nets[pair] + walked.nets[pair],
                                   begun.nets[pair] + walked.nets[pair] + mid.nets[pair]])[1]
                           == begun.nets[pair] + walked.nets[pair] + mid.nets[pair] for pair in mid.nets)
                self.assertEqual(lies, expected)
            for mid in way.values():
                self.assertTold(is_between(path, begun.places, walked.places, mid), True)

    def test_behind_so_many(self):
        for names, begun, walked, runs in slowly.near_pairs_with_runs():
            path = Path(names)
            for many in range(walked.distance + 1):
                told = stand_after(path, begun.places, walked.places, many)
                self.assertEqual(list(told), names)
                self.assertIn(slowly.key(told), [slowly.key(run_end(path, begun.places, run[:many])) for run in runs])
            for many in (walked.distance + 1, -1, 10 ** 30):
                self.assertRefused(BadMany, {"many": many}, stand_after, path, begun.places, walked.places, many)

    def test_great_stands(self):
        for names, path, stand, later in great_stands():
            in_all = fewest(path, stand, later)
            for many in (1, 17, in_all * 2 // 5, in_all // 2 + 1, in_all - 3):
                told = stand_after(path, stand, later, many)
                self.assertEqual(fewest(path, stand, told), many)
                self.assertEqual(fewest(path, told, later), in_all - many)
                self.assertTold(is_between(path, stand, later, told), True)
                self.assertTold(stand_after(path, dict(reversed(list(stand.items()))), later, many), told)
            self.assertTold(stand_after(path, stand, later, 0), stand)
            self.assertTold(stand_after(path, stand, later, in_all), later)
            self.assertRefused(BadMany, {"many": in_all + 1}, stand_after, path, stand, later, in_all + 1)
            beyond = dict(later)
            beyond["w0"] += 20 * 10 ** 18
            beyond["w1"] -= 20 * 10 ** 18
            self.assertTold(is_between(path, stand, later, beyond), False)

    def test_wrong_inputs(self):
        none = {"a": 0, "b": 1, "c": 3}
        for work in (fewest, first_ones, last_ones, shortest_run):
            self.assertRefused(BadStand, {"stand": none}, work, ABC, none, {})
            self.assertRefused(BadStand, {"stand": none}, work, ABC, STAND, none)
        self.assertRefused(BadStand, {"stand": none}, is_between, ABC, FIRST, STAND, none)
        self.assertRefused(BadStand, {"stand": none}, is_between, ABC, FIRST, none, None)
        self.assertRefused(BadStand, {"stand": none}, is_between, ABC, none, None, None)
        self.assertRefused(BadStand, {"stand": none}, is_shortest, ABC, FIRST, none, [])
        for thing in (True, False, None, "1", [1], 6, -1):
            self.assertRefused(BadMany, {"many": thing}, stand_after, ABC, FIRST, STAND, thing)


class Example(ToldCase):
    def test_the_documents(self):
        self.assertTold(fewest(ABC, FIRST, STAND), 5)
        self.assertTold(first_ones(ABC, FIRST, STAND), [("a", "b"), ("b", "c")])
        self.assertTold(last_ones(ABC, FIRST, STAND), [("a", "b"), ("b", "c")])
        self.assertTold(is_between(ABC, FIRST, STAND, {"a": 2, "b": 1, "c": 0}), True)
        self.assertTold(is_shortest(ABC, FIRST, FAR, [([("a", "b"), ("a", "c")], 1001), ([("b", "c")], 1)]), True)


if __name__ == "__main__":
    unittest.main()

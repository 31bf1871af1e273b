"""Section 3 of the document: runs, one-way runs, blocks."""

import itertools
import unittest

from ringwalkers.errors import BadBlocks, BadRun
from ringwalkers.paths import Path, first_stand, net
from ringwalkers.runs import blocks_end, is_one_way, run_end

from tests import slowly
from tests.anything import ANYTHING
from tests.told import ToldCase

ABC = Path(["a", "b", "c"])
FIRST = {"a": 0, "b": 1, "c": 2}


def is_pair_of_walkers(thing):
    return isinstance(thing, (list, tuple)) and len(thing) == 2 and all(type(each) is str for each in thing) \
        and len(set(thing)) == 2 and set(thing) <= {"a", "b", "c"}


class Runs(ToldCase):
    def test_the_stand_behind(self):
        for names, stands in slowly.small_paths():
            path = Path(names)
            for walked in stands:
                self.assertTold(run_end(path, first_stand(path), walked.run), walked.places)

    def test_from_any_stand_and_back(self):
        for names, stands in slowly.small_paths():
            path = Path(names)
            for walked in stands:
                back = [(other, one) for one, other in reversed(walked.run)]
                self.assertTold(run_end(path, walked.places, back), first_stand(path))

    def test_no_overtaking(self):
        self.assertTold(run_end(ABC, {"c": 2, "b": 1, "a": 0}, []), FIRST)
        stand = {"a": 0, "b": 1, "c": 2}
        told = run_end(ABC, stand, ())
        told["a"] = 7
        self.assertEqual(stand, FIRST)

    def test_four_hundred(self):
        names = slowly.many_names(20)
        walked = slowly.begin_of(names, first_stand(Path(names)))
        for step in range(450):
            can = slowly.moves(walked.places)
            walked = slowly.gone(walked, *can[step * step % len(can)])
        self.assertTold(run_end(Path(names), first_stand(Path(names)), walked.run), walked.places)

    def test_the_first_wrong_thing(self):
        right = [("a", "b"), ("a", "c"), ("b", "c"), ("a", "c"), ("a", "b")]
        for index, wrong in itertools.product(range(6), ANYTHING + [("a", "a"), ("a", "d"), ("d", "a"), ("a",), "ab"]):
            if not is_pair_of_walkers(wrong):
                self.assertRefused(BadRun, {"index": index}, run_end, ABC, FIRST, right[:index] + [wrong])
                self.assertRefused(BadRun, {"index": index}, run_end, ABC, FIRST, right[:index] + [wrong] + [None])
                self.assertRefused(BadRun, {"index": index}, run_end, ABC, FIRST, tuple(right[:index]) + (wrong,))

    def test_who_is_not_right_behind(self):
        right = [("a", "b"), ("a", "c"), ("b", "c"), ("a", "c"), ("a", "b")]
        places = FIRST
        for index in range(6):
            for pair in slowly.all_pairs(["a", "b", "c"]):
                if pair not in slowly.moves(places):
                    begun = right[:index]
                    self.assertRefused(BadRun, {"index": index}, run_end, ABC, FIRST, begun + [pair] + right[index:])
                    self.assertRefused(BadRun, {"index": index}, run_end, ABC, FIRST, begun + [list(pair), 5])
            if index < 5:
                places = slowly.moved(places, *right[index])

    def test_no_list(self):
        for thing in ANYTHING:
            if not isinstance(thing, (list, tuple)):
                self.assertRefused(BadRun, {"index": 0}, run_end, ABC, FIRST, thing)

    def test_an_error_changes_nothing(self):
        stand = dict(FIRST)
        self.assertRefused(BadRun, {"index": 1}, run_end, ABC, stand, [("a", "b"), ("a", "b")])
        self.assertEqual(stand, FIRST)


class OneWay(ToldCase):
    def test_all_short_lists_of_pairs(self):
        pairs = slowly.all_pairs(["a", "b", "c"])
        for many in range(4):
            for run in itertools.product(pairs, repeat=many):
                expected = not any((other, one) in run for one, other in run)
                self.assertTold(is_one_way(ABC, list(run)), expected)
                self.assertTold(is_one_way(ABC, tuple(list(pair) for pair in run)), expected)

    def test_who_is_behind_whom_means_nothing(self):
        self.assertTold(is_one_way(ABC, [("a", "c"), ("a", "c"), ("c", "b")]), True)
        self.assertTold(is_one_way(ABC, [("a", "c"), ("a", "b"), ("c", "b"), ("c", "a")]), False)

    def test_behind_one_each_net_is_how_often(self):
        for names, stands in slowly.small_paths():
            path = Path(names)
            for walked in stands:
                run = walked.run
                self.assertTold(is_one_way(path, run), True)
                for one, other in slowly.all_pairs(names):
                    self.assertEqual(run.count((one, other)), max(0, net(path, walked.places, one, other)))

    def test_the_first_wrong_thing(self):
        both_ways = [("a", "b"), ("b", "a"), ("a", "c")]
        for index, wrong in itertools.product(range(4), ANYTHING + [("a", "a"), ("a", "d"), ("d", "a"), ("a",), "ab"]):
            if not is_pair_of_walkers(wrong):
                self.assertRefused(BadRun, {"index": index}, is_one_way, ABC, both_ways[:index] + [wrong])
                self.assertRefused(BadRun, {"index": index}, is_one_way, ABC, both_ways[:index] + [wrong, ("a", "a")])

    def test_no_list(self):
        for thing in ANYTHING:
            if not isinstance(thing, (list, tuple)):
                self.assertRefused(BadRun, {"index": 0}, is_one_way, ABC, thing)


def turning_runs(names, places, depth):
    """All runs of at most so many overtakings from these places, with the places behind each."""
    level = [([], dict(places))]
    found = list(level)
    for _ in range(depth):
        level = [(run + [pair], slowly.moved(now, *pair)) for run, now in level for pair in slowly.moves(now)]
        found += level
    return found


class Blocks(ToldCase):
    def test_step_by_step(self):
        for names, start, depth in ((["a", "b"], {"a": 4, "b": -3}, 3), (["a", "b", "c"], {"a": 4, "b": 0, "c": -1}, 4),
                                    (["a", "b", "c", "d"], {"a": 5, "b": 0, "c": -1, "d": 2}, 4)):
            path = Path(names)
            for run, behind in turning_runs(names, start, depth):
                self.assertTold(blocks_end(path, start, [(run, 1)]), behind)
                keeps = sorted(slowly.moves(behind)) == sorted(slowly.moves(start))
                for times in (2, 3, 7):
                    if keeps:
                        self.assertTold(blocks_end(path, start, [(run, times)]), run_end(path, start, run * times))
                    else:
                        self.assertRefused(BadBlocks, {"index": 0}, blocks_end, path, start, [(run, times)])

    def test_several_blocks(self):
        start = FIRST
        blocks = [([("a", "b")], 1), ([("a", "c"), ("b", "c")], 1), ([("a", "c"), ("a", "b")], 5), ([], 9),
                  ([("c", "b")], 1), ([("a", "b"), ("a", "c")], 2)]
        run = [pair for part, times in blocks for pair in part * times]
        self.assertTold(blocks_end(ABC, start, blocks), run_end(ABC, start, run))

    def test_none(self):
        self.assertTold(blocks_end(ABC, {"c": 2, "b": 1, "a": 0}, []), FIRST)
        self.assertTold(blocks_end(ABC, FIRST, [([], 10 ** 15), ((), 1)]), FIRST)

    def test_great_times(self):
        round_once = [("a", "c"), ("a", "b")]
        for times in (10 ** 15, 10 ** 15 + 7, 10 ** 40):
            stand = blocks_end(ABC, {"a": 2, "b": 1, "c": 0}, [(round_once, times)])
            self.assertTold(stand, {"a": 2 + 2 * times, "b": 1 - times, "c": -times})
            self.assertTold(blocks_end(ABC, stand, [([("b", "a"), ("c", "a")], times)]), {"a": 2, "b": 1, "c": 0})

    def test_twenty_who_go_round(self):
        names = slowly.many_names(20)
        path = Path(names)
        run = [("w0", name) for name in names[1:]]
        stand = blocks_end(path, first_stand(path), [(run, 10 ** 15)] * 60)
        laps = 60 * 10 ** 15
        self.assertTold(stand, {name: index - laps if index else 19 * laps for index, name in enumerate(names)})

    def test_places_may_be_turned_if_all_have_the_same_one_ahead(self):
        start = {"a": 0, "b": 1}
        self.assertTold(blocks_end(Path(["a", "b"]), start, [([("a", "b")], 3)]), {"a": 3, "b": -2})
        self.assertRefused(BadBlocks, {"index": 0}, blocks_end, ABC, FIRST, [([("a", "b")], 2)])
        self.assertTold(blocks_end(ABC, FIRST, [([("a", "b"), ("a", "c"), ("b", "c"), ("a", "c"), ("a", "b")], 1)]),
                        {"a": 4, "b": 0, "c": -1})

    def test_the_first_wrong_thing(self):
        right = [([("a", "b"), ("a", "c")], 4), ([("a", "b")], 1), ([("a", "c"), ("b", "c")], 1)]
        wrongs = ANYTHING + [([("a", "c")], 1), ([("b", "a")], 1), ([], 0), ([], -1), ([], True), ([], "1"), ([], None),
                             ([], [1]), ([],), ([], 1, 1), ("", 1), ("ab", 1), (None, 1), ({}, 1), (5, 1), (["ab"], 1),
                             ([("a", "b", "c")], 1), ([("a", "a")], 1), ([("a", "d")], 1), (1, [])]
        for wrong in wrongs:
            if wrong == ([["a", "b"]], 1):
                continue
            blocks = right[:1] + [wrong]
            self.assertRefused(BadBlocks, {"index": 0}, blocks_end, ABC, FIRST, [wrong, ([], 1)])
            self.assertRefused(BadBlocks, {"index": 1}, blocks_end, ABC, FIRST, blocks)
            self.assertRefused(BadBlocks, {"index": 1}, blocks_end, ABC, FIRST, tuple(blocks) + (None,))
            if wrong not in (([("b", "a")], 1), ([("a", "c")], 1)):
                self.assertRefused(BadBlocks, {"index": 2}, blocks_end, ABC, FIRST, right[:2] + [wrong])

    def test_no_list(self):
        for thing in ANYTHING:
            if not isinstance(thing, (list, tuple)):
                self.assertRefused(BadBlocks, {"index": 0}, blocks_end, ABC, FIRST, thing)

    def test_an_error_changes_nothing(self):
        stand = dict(FIRST)
        self.assertRefused(BadBlocks, {"index": 1}, blocks_end, ABC, stand, [([("a", "b")], 1), ([("a", "b")], 1)])
        self.assertEqual(stand, FIRST)


class Example(ToldCase):
    def test_the_documents(self):
        run = [("a", "b"), ("a", "c"), ("b", "c")]
        self.assertTold(run_end(ABC, FIRST, run), {"a": 2, "b": 1, "c": 0})
        self.assertTold(run_end(ABC, {"a": 2, "b": 1, "c": 0}, [("a", "c"), ("a", "b")]), {"a": 4, "b": 0, "c": -1})
        self.assertTold(blocks_end(ABC, {"a": 2, "b": 1, "c": 0}, [([("a", "c"), ("a", "b")], 1000)]),
                        {"a": 2002, "b": -999, "c": -1000})


if __name__ == "__main__":
    unittest.main()

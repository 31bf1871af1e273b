"""Section 14 of the document: stands within spans counted and listed, and the spans of some stands."""

import itertools
import random
import unittest

from ringwalkers.errors import BadPath, BadStands
from ringwalkers.netspans import fits, net_bounds
from ringwalkers.paths import Path, turned
from ringwalkers.refusals import BadSpans
from ringwalkers.tables import table
from ringwalkers.withincounts import all_fits, count_fits, spans_of

from tests import slowly
from tests.anything import ANYTHING
from tests.test_netspans import BAD_SPANS, lies_within, scenes
from tests.told import ToldCase

ABC = Path(["a", "b", "c"])
SIX = {("a", "b"): (0, 1), ("b", "c"): (0, 1), ("a", "c"): (0, 1)}
STAND = {"a": 4, "b": 0, "c": -1}
FIRST = {"a": 0, "b": 1, "c": 2}


def by_tables(names, fitting):
    """Stands ascending by their nets, pairs in the order of the path."""
    pairs = slowly.all_pairs(names)
    return sorted(fitting, key=lambda walked: [walked.nets[pair] for pair in pairs])


class Counted(ToldCase):
    def test_near_stands(self):
        met = {None: 0, 0: 0, 1: 0}
        for names, spans, near in scenes(11):
            path = Path(names)
            fitting = [walked for walked in near if lies_within(walked.nets, spans)]
            count = count_fits(path, spans)
            told = all_fits(path, spans)
            if count is None:
                self.assertIsNone(told)
                self.assertNotEqual(fitting, [])
                pairs = [net_bounds(path, spans, *pair) for pair in slowly.all_pairs(names)]
                self.assertTrue(any(None in bounds for bounds in pairs))
            elif len(names) < 4:
                self.assertTold(count, len(fitting))
                self.assertTold(told, [walked.places for walked in by_tables(names, fitting)])
            met[count if count is None else min(count, 1)] += 1
        self.assertGreater(min(met.values()), 10)

    def test_all_pairs_bounded(self):
        chance = random.Random(12)
        for many, depth, share in ((2, 9, 30), (3, 16, 40), (4, 16, 8)):
            names = slowly.names_of(many)
            path = Path(names)
            near = list(slowly.explore(names, depth).values())
            for _ in range(share):
                spans = {}
                for pair in itertools.combinations(names, 2):
                    least = chance.randint(-2, 1)
                    pair = chance.choice([pair, pair[::-1]])
                    spans[pair] = [least, least + chance.randint(0, 2)]
                fitting = [walked for walked in near if lies_within(walked.nets, spans)]
                self.assertTold(count_fits(path, spans), len(fitting))
                self.assertTold(all_fits(path, spans), [walked.places for walked in by_tables(names, fitting)])

    def test_far_off(self):
        far = 10 ** 17
        spans = {("a", "b"): (far, far + 1), ("b", "c"): (-far, 1 - far), ("c", "a"): (-1, 1)}
        told = all_fits(ABC, spans)
        self.assertEqual(len(told), count_fits(ABC, spans))
        self.assertEqual(told, sorted(told, key=lambda stand: list(table(ABC, stand).values())))
        expected = []
        for ab, bc, ac in itertools.product((far, far + 1), (-far, 1 - far), (-1, 0, 1)):
            if ab + bc - ac in (0, 1):
                expected.append({"a": ab + ac, "b": 1 - ab + bc, "c": 2 - ac - bc})
        self.assertTold(told, expected)
        back, _ = turned(ABC, FIRST)
        self.assertTold(count_fits(back, {(other, one): span for (one, other), span in spans.items()}), len(told))

    def test_two_thousand(self):
        names = slowly.names_of(4)
        spans = {pair: (-5, 5) for pair in itertools.combinations(names, 2)}
        told = all_fits(Path(names), spans)
        self.assertGreater(len(told), 1500)
        self.assertTold(count_fits(Path(names), spans), len(told))
        keys = {slowly.key(stand) for stand in told}
        self.assertEqual(len(keys), len(told))
        for stand in told[::7]:
            self.assertTold(fits(Path(names), spans, stand), True)
            for one, other in slowly.moves(stand):
                behind = slowly.moved(stand, one, other)
                self.assertEqual(slowly.key(behind) in keys, fits(Path(names), spans, behind))

    def test_no_bounds(self):
        self.assertTold(count_fits(ABC, {}), None)
        self.assertTold(all_fits(ABC, {}), None)
        half = {("a", "b"): (0, 0), ("a", "c"): (None, 5)}
        self.assertTold(count_fits(ABC, half), None)
        none = {("a", "b"): (1, None), ("b", "a"): (0, None)}
        self.assertTold(count_fits(ABC, none), 0)
        self.assertTold(all_fits(ABC, none), [])
        # Bounds of others bound the pair that has none.
        self.assertTold(all_fits(ABC, {("a", "b"): (0, 0), ("b", "c"): (0, 0)}), [{"a": -1, "b": 1, "c": 3}, FIRST])

    def test_wrong_spans(self):
        for work in (count_fits, all_fits):
            for thing in BAD_SPANS + [thing for thing in ANYTHING if thing != {}]:
                self.assertRefused(BadSpans, {"spans": thing}, work, ABC, thing)
            self.assertRefused(BadPath, {"thing": None}, work, None, None)


class SpansOf(ToldCase):
    def test_near_stands(self):
        chance = random.Random(13)
        for names, near in slowly.small_paths():
            path = Path(names)
            for _ in range(60):
                walked = chance.choices(near, k=chance.randint(1, 8))
                expected = {}
                for pair in slowly.all_pairs(names):
                    nets = [each.nets[pair] for each in walked]
                    expected[pair] = (min(nets), max(nets))
                told = spans_of(path, [each.places for each in walked])
                self.assertTold(told, expected)
                self.assertTold(spans_of(path, tuple(each.places for each in walked)), expected)
                for each in walked:
                    self.assertTold(fits(path, told, each.places), True)

    def test_far_ones(self):
        names = slowly.many_names(20)
        path = Path(names)
        stands = [slowly.far_stand(names, [0] + [turn * 10 ** 17 * (-1) ** index for index in range(19)])
                  for turn in (-1, 0, 3)]
        told = spans_of(path, stands)
        for pair in slowly.all_pairs(names):
            nets = [slowly.net_by(names, stand, *pair) for stand in stands]
            self.assertTold(told[pair], (min(nets), max(nets)))

    def test_wrong_stands(self):
        for thing in ([], (), None, 3, True, "", {}, {0: STAND}, STAND, ABC):
            self.assertRefused(BadStands, {"index": 0}, spans_of, ABC, thing)
        for thing in ANYTHING + [{"a": 0, "b": 1, "c": 3}]:
            self.assertRefused(BadStands, {"index": 2}, spans_of, ABC, [STAND, FIRST, thing, thing])
        self.assertRefused(BadPath, {"thing": STAND}, spans_of, STAND, [])


class Example(ToldCase):
    def test_the_documents(self):
        self.assertTold(count_fits(ABC, SIX), 6)
        self.assertEqual(len(all_fits(ABC, SIX)), 6)


if __name__ == "__main__":
    unittest.main()

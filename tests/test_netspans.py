"""Section 14 of the document: stands within spans, or a ring; least and most nets, and places."""

import itertools
import random
import unittest

from ringwalkers.errors import BadPath, NoWalker
from ringwalkers.netspans import (
    fits, net_bounds, place_span, span_room, spans_ring, stand_within, sure_overtakers)
from ringwalkers.paths import Path
from ringwalkers.refusals import BadSpans, NoneWithin

from tests import slowly
from tests.anything import ANYTHING
from tests.told import ToldCase

ABC = Path(["a", "b", "c"])
SPANS = {("a", "b"): (1, None), ("b", "c"): (1, 2)}
FIRST = {"a": 0, "b": 1, "c": 2}
BAD_SPANS = [
    {("a", "a"): (0, 1)}, {("a", "d"): (0, 1)}, {("a",): (0, 1)}, {("a", "b", "c"): (0, 1)}, {"ab": (0, 1)},
    {("a", "b"): (1, 0)}, {("a", "b"): (0,)}, {("a", "b"): (0, 1, 2)}, {("a", "b"): 1}, {("a", "b"): None},
    {("a", "b"): (True, 1)}, {("a", "b"): (0, False)}, {("a", "b"): ("0", "1")}, {("a", "b"): (None, True)},
    {("a", "b"): (0, 1), ("b", "c"): (1, 0)}, {("a", "b"): ([], None)}, {("a", 1): (0, 1)}, {1: (0, 1)},
    {None: (0, 1)}, [(("a", "b"), (0, 1))], [], (), None, 0, "", {("a", "b"): {0: 1}}, {(("a",), "b"): (0, 1)}]


def lies_within(nets, spans):
    for pair, (least, most) in spans.items():
        if (least is not None and nets[pair] < least) or (most is not None and nets[pair] > most):
            return False
    return True


def drawn_spans(chance, names, far):
    """Spans of some pairs, each with bounds up to so far."""
    spans = {}
    for pair in slowly.all_pairs(names):
        if chance.random() < 0.45:
            least, most = sorted([chance.randint(-far, far), chance.randint(-far, far)])
            spans[pair] = (least if chance.random() < 0.6 else None, most if chance.random() < 0.6 else None)
    return spans


# Walkers, how far bounds go, how far stands are explored: farther than any bounded net can lead.
SCENES = [(2, 3, 8, 60), (3, 2, 18, 120), (3, 1, 14, 80), (4, 1, 13, 50)]


def scenes(seed):
    chance = random.Random(seed)
    for many, far, depth, share in SCENES:
        names = slowly.names_of(many)
        near = list(slowly.explore(names, depth).values())
        for _ in range(share):
            yield names, drawn_spans(chance, names, far), near


class Within(ToldCase):
    def test_a_stand_or_a_ring(self):
        found = {True: 0, False: 0}
        for names, spans, near in scenes(1):
            path = Path(names)
            fitting = [walked for walked in near if lies_within(walked.nets, spans)]
            stand = stand_within(path, spans)
            ring = spans_ring(path, spans)
            self.assertEqual(stand is None, ring is not None)
            self.assertEqual(stand is None, fitting == [])
            found[stand is None] += 1
            if ring is None:
                self.assertIn(stand, [walked.places for walked in fitting])
                self.assertTold(fits(path, spans, stand), True)
                self.assertEqual(list(stand), names)
            else:
                self.check_ring(path, spans, ring)
        self.assertGreater(min(found.values()), 15)

    def check_ring(self, path, spans, ring):
        self.assertGreaterEqual(len(ring), 2)
        self.assertEqual(len(set(ring)), len(ring))
        self.assertLessEqual(sum(span_room(path, spans, x, y) for x, y in zip(ring, ring[1:] + ring[:1])), 0)
        for work in (sure_overtakers, lambda path, spans: net_bounds(path, spans, ring[0], ring[1]),
                     lambda path, spans: net_bounds(path, spans, ring[0], ring[0]),
                     lambda path, spans: place_span(path, spans, ring[0])):
            self.assertRefused(NoneWithin, {}, work, path, spans)

    def test_which_fit(self):
        for names, spans, near in scenes(2):
            for walked in near[::5]:
                self.assertTold(fits(Path(names), spans, walked.places), lies_within(walked.nets, spans))
        for thing in ANYTHING + [{"a": 0, "b": 1, "c": 3}, {"a": 0, "b": 1}]:
            self.assertTold(fits(ABC, {}, thing), False)
        self.assertTold(fits(ABC, {}, FIRST), True)

    def test_rooms(self):
        for names, spans, near in scenes(3):
            path = Path(names)
            for x, y in itertools.product(names, repeat=2):
                bounds = [spans[x, y][1]] if (x, y) in spans and spans[x, y][1] is not None else []
                if (y, x) in spans and spans[y, x][0] is not None:
                    bounds.append(0 - spans[y, x][0])
                expected = min(bounds) + (1 if names.index(x) > names.index(y) else 0) if bounds else None
                self.assertTold(span_room(path, spans, x, y), 0 if x == y else expected)
                if bounds:
                    for walked in near[::40]:
                        below = walked.places[x] - walked.places[y] < expected * len(names)
                        self.assertEqual(below, walked.nets[x, y] <= min(bounds))

    def test_none_at_all(self):
        self.assertTold(stand_within(ABC, {}), FIRST)
        self.assertTold(spans_ring(ABC, {}), None)
        self.assertTold(net_bounds(ABC, {}, "a", "b"), (None, None))
        self.assertTold(net_bounds(ABC, {}, "a", "a"), (0, 0))
        self.assertTold(place_span(ABC, {}, "a"), (None, None))
        self.assertTold(sure_overtakers(ABC, {}), [])
        self.assertTold(span_room(ABC, {("a", "b"): (None, None)}, "a", "b"), None)
        self.assertTold(net_bounds(ABC, {("a", "b"): (None, None)}, "a", "b"), (None, None))


class LeastAndMost(ToldCase):
    def test_near_stands(self):
        for names, spans, near in scenes(4):
            path = Path(names)
            fitting = [walked for walked in near if lies_within(walked.nets, spans)]
            if not fitting:
                continue
            surely = []
            for one, other in slowly.all_pairs(names):
                least, most = net_bounds(path, spans, one, other)
                nets = sorted({walked.nets[one, other] for walked in fitting})
                self.assertEqual(nets, list(range(nets[0], nets[-1] + 1)))
                self.check_end(path, spans, nets[-1], most, (one, other))
                self.check_end(path, spans, -nets[0], None if least is None else -least, (other, one))
                self.assertTold(net_bounds(path, spans, other, one),
                                (None if most is None else -most, None if least is None else -least))
                if least is not None and least >= 1:
                    surely.append((one, other))
            self.assertTold(sure_overtakers(path, spans), surely)
            self.assertTold(net_bounds(path, spans, names[-1], names[-1]), (0, 0))

    def check_end(self, path, spans, nearest, most, pair):
        """The most net is what near stands have; farther ones are had without a bound, not beyond one."""
        if most is None:
            self.assertIsNotNone(stand_within(path, self.narrowed(spans, pair, 10 ** 17)))
        else:
            self.assertLessEqual(nearest, most)
            if len(path.walkers()) < 4:
                self.assertEqual(nearest, most)
            self.assertIsNotNone(stand_within(path, self.narrowed(spans, pair, most)))
            self.assertIsNone(stand_within(path, self.narrowed(spans, pair, most + 1)))

    def narrowed(self, spans, pair, least):
        """The spans, and the pair's net so much at least."""
        known, most = spans.get(pair, (None, None))
        if most is not None and least > most:
            # Told by the turned pair, so that these still are spans.
            turned = pair[::-1]
            low, high = spans.get(turned, (None, None))
            high = -least if high is None else min(high, -least)
            if low is not None and low > high:
                return {pair: (1, None), turned: (0, None)}
            return {**spans, turned: (low, high)}
        return {**spans, pair: (least if known is None else max(known, least), most)}

    def test_places(self):
        for names, spans, near in scenes(5):
            path = Path(names)
            fitting = [walked for walked in near if lies_within(walked.nets, spans)]
            if not fitting:
                continue
            for index, name in enumerate(names):
                least, most = place_span(path, spans, name)
                bounds = [net_bounds(path, spans, name, other) for other in names if other != name]
                lows = [low for low, _ in bounds]
                highs = [high for _, high in bounds]
                self.assertTold(least, None if None in lows else index + sum(lows))
                self.assertTold(most, None if None in highs else index + sum(highs))
                places = [walked.places[name] for walked in fitting]
                if len(names) < 4 and least is not None:
                    self.assertEqual(least, min(places))
                if len(names) < 4 and most is not None:
                    self.assertEqual(most, max(places))

    def test_great_bounds(self):
        chance = random.Random(6)
        names = slowly.many_names(20)
        path = Path(names)
        rings = 0
        for turn in range(16):
            far = 10 ** 17
            stand = slowly.far_stand(names, [0] + [chance.randint(-far // 50, far // 50) for _ in names[1:]])
            spans = {}
            for one, other in chance.sample(slowly.all_pairs(names), 60 + 10 * (turn % 5)):
                between = slowly.net_by(names, stand, one, other)
                spread = chance.choice([0, 1, far // 10])
                spans[one, other] = (between - spread if chance.random() < 0.6 else None,
                                     between + spread if chance.random() < 0.6 else None)
            if turn % 2:
                one, other = chance.choice(list(spans))
                spans[one, other] = (spans[one, other][0], None)
                spans[other, one] = (1 - slowly.net_by(names, stand, one, other) + far // 3, None)
            told = stand_within(path, spans)
            if told is None:
                rings += 1
                self.assertGreater(turn % 2, 0)
                ring = spans_ring(path, spans)
                self.assertLessEqual(sum(span_room(path, spans, *pair) for pair in zip(ring, ring[1:] + ring[:1])), 0)
                continue
            self.assertTold(spans_ring(path, spans), None)
            self.assertTold(fits(path, spans, told), True)
            for one, other in slowly.all_pairs(names)[::17]:
                least, most = net_bounds(path, spans, one, other)
                between = slowly.net_by(names, told, one, other)
                self.assertTrue(least is None or least <= between)
                self.assertTrue(most is None or between <= most)
        self.assertGreater(rings, 2)
        self.assertLess(rings, 9)

    def test_a_chain(self):
        names = slowly.many_names(20)
        path = Path(names)
        far = 10 ** 17
        spans = {(one, other): (far, far + 1) for one, other in zip(names, names[1:])}
        self.assertTold(net_bounds(path, spans, names[0], names[19]), (19 * far - 18, 19 * (far + 1)))
        self.assertTold(net_bounds(path, spans, names[19], names[0]), (-19 * (far + 1), 18 - 19 * far))
        self.assertEqual(len(sure_overtakers(path, spans)), 190)
        spans[names[19], names[0]] = (18 - 19 * far, None)
        self.assertTold(net_bounds(path, spans, names[0], names[19]), (19 * far - 18, 19 * far - 18))
        spans[names[19], names[0]] = (19 - 19 * far, None)
        self.assertTold(stand_within(path, spans), None)
        self.assertEqual(len(spans_ring(path, spans)), 20)


class Same(ToldCase):
    def test_equal_spans_tell_the_same(self):
        chance = random.Random(8)
        for names, spans, _ in scenes(7):
            path = Path(names)
            keys = list(spans)
            chance.shuffle(keys)
            turned = {pair: list(spans[pair]) for pair in keys}
            self.assertTold(stand_within(path, turned), stand_within(path, spans))
            self.assertTold(spans_ring(path, turned), spans_ring(path, spans))


class Wrong(ToldCase):
    def works(self):
        yield stand_within
        yield spans_ring
        yield sure_overtakers
        yield lambda path, spans: fits(path, spans, None)
        yield lambda path, spans: span_room(path, spans, None, None)
        yield lambda path, spans: net_bounds(path, spans, None, None)
        yield lambda path, spans: place_span(path, spans, None)

    def test_wrong_spans(self):
        for work in self.works():
            for thing in BAD_SPANS + [thing for thing in ANYTHING if thing != {}]:
                self.assertRefused(BadSpans, {"spans": thing}, work, ABC, thing)
            self.assertRefused(BadPath, {"thing": None}, work, None, None)

    def test_wrong_walkers(self):
        ring = {("a", "b"): (1, None), ("b", "a"): (0, None)}
        self.assertTold(stand_within(ABC, ring), None)
        for thing in ANYTHING:
            for work in (span_room, net_bounds):
                if thing not in ("a", "b"):
                    self.assertRefused(NoWalker, {"walker": thing}, work, ABC, ring, thing, None)
                    self.assertRefused(NoWalker, {"walker": thing}, work, ABC, ring, "a", thing)
            if thing not in ("a", "b"):
                self.assertRefused(NoWalker, {"walker": thing}, place_span, ABC, ring, thing)
        for one, other in ("ab", "ca", "cc"):
            self.assertRefused(NoneWithin, {}, net_bounds, ABC, ring, one, other)
        self.assertRefused(NoneWithin, {}, place_span, ABC, ring, "c")
        self.assertRefused(NoneWithin, {}, sure_overtakers, ABC, ring)


class Example(ToldCase):
    def test_the_documents(self):
        self.assertTold(span_room(ABC, SPANS, "b", "a"), 0)
        self.assertTold(span_room(ABC, SPANS, "b", "c"), 2)
        self.assertTold(span_room(ABC, SPANS, "c", "b"), 0)
        self.assertTold(net_bounds(ABC, SPANS, "a", "c"), (1, None))
        spans = {**SPANS, ("c", "a"): (0, None)}
        self.assertTold(span_room(ABC, spans, "a", "c"), 0)
        self.assertTold(stand_within(ABC, spans), None)
        ring = spans_ring(ABC, spans)
        self.assertIn(ring, [["a", "c", "b"], ["c", "b", "a"], ["b", "a", "c"]])


if __name__ == "__main__":
    unittest.main()

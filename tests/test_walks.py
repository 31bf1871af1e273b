"""Section 13 of the document: walks at steady paces."""

import itertools
import random
import unittest
from fractions import Fraction

from ringwalkers.errors import BadPath, BadStand, BadTimes, NoWalker
from ringwalkers.paths import Path, first_stand, is_stand, net
from ringwalkers.refusals import BadHour, BadWalk
from ringwalkers.walks import as_at_first, caught_at, is_walk, next_catch, shown, stand_then, walk_to

from tests import slowly
from tests.anything import ANYTHING
from tests.told import ToldCase

ABC = Path(["a", "b", "c"])
POSTS = {"a": 0, "b": 4, "c": 7}
WALK = (10, POSTS, {"a": 3, "b": 1, "c": 1})
FIRST = {"a": 0, "b": 1, "c": 2}


def pair_of(hour):
    return None if hour is None else (hour.numerator, hour.denominator)


def drawn_walks(seed, share):
    """Small walks, drawn."""
    chance = random.Random(seed)
    for many in (2, 3, 4, 5):
        names = slowly.names_of(many)
        for _ in range(share):
            lap = chance.randint(many, many + 6)
            posts = dict(zip(names, sorted(chance.sample(range(lap), many))))
            yield names, (lap, posts, {name: chance.randint(0, 6) for name in names})


def catches(names, walk, until):
    """All catches up to an hour as (hour, one, other), by going from lap to lap, in order of the hours."""
    lap, posts, paces = walk
    found = []
    for one, other in slowly.all_pairs(names):
        faster = paces[one] - paces[other]
        if faster > 0:
            way = (posts[other] - posts[one]) % lap
            while Fraction(way, faster) <= until:
                found.append((Fraction(way, faster), one, other))
                way += lap
    return sorted(found, key=lambda each: each[0])


def gone_through(names, found):
    """The stands one behind another, as (hour up to which it is shown, stand), by doing each catch as an overtaking."""
    places = {name: index for index, name in enumerate(names)}
    told = []
    while found:
        hour = found[0][0]
        told.append((hour, places))
        together = [each[1:] for each in found if each[0] == hour]
        found = found[len(together):]
        while together:
            # Of those who catch at once, whoever is right behind goes first.
            pair = [each for each in together if each in slowly.moves(places)][0]
            together.remove(pair)
            places = slowly.moved(places, *pair)
    return told


class StandsThen(ToldCase):
    def test_drawn_walks(self):
        for names, walk in drawn_walks(1, 25):
            path = Path(names)
            row = gone_through(names, catches(names, walk, 40))
            for hour in range(12):
                expected = [places for end, places in row if end >= hour]
                if expected:
                    self.assertTold(stand_then(path, walk, hour), expected[0])
            self.assertTold(stand_then(path, list(walk), 0), first_stand(path))

    def test_shown(self):
        for names, walk in drawn_walks(2, 25):
            path = Path(names)
            row = gone_through(names, catches(names, walk, 15))
            begin = None
            for end, places in row:
                self.assertTold(shown(path, walk, places), (pair_of(begin), pair_of(end)))
                begin = end
            known = {slowly.key(places) for _, places in row}
            if len(set(walk[2].values())) == 1:
                self.assertTold(shown(path, walk, first_stand(path)), (None, None))
                known.add(slowly.key(first_stand(path)))
            if len(names) < 5:
                for reached, walked in slowly.explore(names, 4).items():
                    if reached not in known and len(row) > 10:
                        self.assertTold(shown(path, walk, walked.places), None)

    def test_shown_at_its_hours_alone(self):
        for names, walk in drawn_walks(3, 10):
            path = Path(names)
            for hour in range(6):
                stand = stand_then(path, walk, hour)
                begin, end = shown(path, walk, stand)
                self.assertTrue(begin is None or Fraction(*begin) < hour)
                self.assertTrue(end is None or hour <= Fraction(*end))
                for other in range(9):
                    inside = (begin is None or Fraction(*begin) < other) and (end is None or other <= Fraction(*end))
                    self.assertEqual(stand_then(path, walk, other) == stand, inside)

    def test_great_ones(self):
        chance = random.Random(4)
        names = slowly.many_names(20)
        path = Path(names)
        for _ in range(5):
            lap = 10 ** 18 - chance.randint(0, 99)
            posts = dict(zip(names, sorted(chance.sample(range(lap), 20))))
            walk = (lap, posts, {name: chance.randint(0, 10 ** 18) for name in names})
            for hour in (0, 1, 10 ** 9, 10 ** 18, 10 ** 19 + 7):
                stand = stand_then(path, walk, hour)
                self.assertTold(is_stand(path, stand), True)
                begin, end = shown(path, walk, stand)
                self.assertTrue(begin is None or begin[0] < hour * begin[1])
                self.assertTrue(hour * end[1] <= end[0])
                hour_next, pairs = next_catch(path, walk, hour)
                self.assertTold(hour_next, end)
                for one, other in pairs:
                    times = net(path, stand, one, other) + 1
                    self.assertTold(caught_at(path, walk, one, other, times), end)


class Catching(ToldCase):
    def test_drawn_walks(self):
        for names, walk in drawn_walks(5, 20):
            path = Path(names)
            found = catches(names, walk, 30)
            for one, other in itertools.product(names, repeat=2):
                hours = [hour for hour, *pair in found if pair == [one, other]]
                for times, hour in enumerate(hours, 1):
                    self.assertTold(caught_at(path, walk, one, other, times), pair_of(hour))
                if walk[2][one] <= walk[2][other]:
                    self.assertTold(caught_at(path, walk, one, other, 1), None)
                    self.assertTold(caught_at(path, walk, one, other, 10 ** 15), None)

    def test_the_next_one(self):
        for names, walk in drawn_walks(6, 25):
            path = Path(names)
            found = catches(names, walk, 40)
            for hour in range(15):
                later = [each for each in found if each[0] >= hour]
                if len(set(walk[2].values())) == 1:
                    self.assertTold(next_catch(path, walk, hour), None)
                elif later:
                    pairs = [(one, other) for then, one, other in later if then == later[0][0]]
                    self.assertTold(next_catch(path, walk, hour), (pair_of(later[0][0]), slowly.by_path(names, pairs)))

    def test_great_times(self):
        walk = (10 ** 18, {"a": 0, "b": 1, "c": 10 ** 18 - 1}, {"a": 10 ** 18, "b": 0, "c": 10 ** 18 - 1})
        for times in (1, 2, 10 ** 15, 10 ** 20):
            self.assertTold(caught_at(ABC, walk, "a", "b", times),
                            pair_of(Fraction((times - 1) * 10 ** 18 + 1, 10 ** 18)))
            self.assertTold(caught_at(ABC, walk, "a", "c", times), (times * 10 ** 18 - 1, 1))
            self.assertTold(caught_at(ABC, walk, "b", "c", times), None)
            self.assertTold(caught_at(ABC, walk, "a", "a", times), None)

    def test_all_at_once(self):
        names = slowly.many_names(20)
        # All but the last one stand still, whom the last one catches one by one; and all at once where paces fit.
        posts = {name: index for index, name in enumerate(names)}
        walk = (20, posts, {name: 19 - index for index, name in enumerate(names)})
        self.assertTold(next_catch(Path(names), walk, 0), ((1, 1), slowly.by_path(names, [
            pair for pair in slowly.all_pairs(names) if names.index(pair[0]) < names.index(pair[1])])))
        self.assertTold(stand_then(Path(names), walk, 1), first_stand(Path(names)))
        self.assertTold(stand_then(Path(names), walk, 2), {name: 19 - index for index, name in enumerate(names)})


class AsAtFirst(ToldCase):
    def test_drawn_walks(self):
        for names, walk in drawn_walks(7, 40):
            path = Path(names)
            lap, _, paces = walk
            differences = [paces[one] - paces[other] for one, other in slowly.all_pairs(names)]
            hours = sorted({Fraction(lap * turn, abs(each)) for each in differences if each != 0
                            for turn in range(1, abs(each) * lap + 1)})
            expected = [hour for hour in hours if all((each * hour / lap).denominator == 1 for each in differences)]
            self.assertTold(as_at_first(path, walk), pair_of(expected[0]) if expected else None)
            if expected:
                self.check_catches(names, walk, expected[0])

    def check_catches(self, names, walk, hour):
        found = catches(names, walk, hour)
        for one, other in slowly.all_pairs(names):
            faster = walk[2][one] - walk[2][other]
            if faster > 0:
                self.assertEqual(len([each for each in found if each[1:] == (one, other)]), faster * hour / walk[0])

    def test_great_ones(self):
        walk = (10 ** 18, POSTS, {"a": 10 ** 18, "b": 0, "c": 4 * 10 ** 17})
        self.assertTold(as_at_first(ABC, walk), (5, 1))
        walk = (10 ** 18 - 1, POSTS, {"a": 10 ** 18, "b": 10 ** 18, "c": 10 ** 18})
        self.assertTold(as_at_first(ABC, walk), None)
        self.assertTold(next_catch(ABC, walk, 10 ** 18), None)
        self.assertTold(shown(ABC, walk, FIRST), (None, None))
        self.assertTold(shown(ABC, walk, {"a": 1, "b": 0, "c": 2}), None)


class WalkTo(ToldCase):
    def test_near_stands(self):
        for names, near in slowly.small_paths():
            path = Path(names)
            for walked in near:
                lap, posts, paces = walk_to(path, walked.places)
                self.assertEqual(lap, len(names))
                self.assertTold(posts, first_stand(path))
                self.assertEqual(min(paces.values()), 0)
                rest = {walked.places[name] - index - paces[name] for index, name in enumerate(names)}
                self.assertEqual(len(rest), 1)
                self.assertTold(list(paces), names)
                self.assertTold(is_walk(path, (lap, posts, paces)), True)
                self.assertTold(stand_then(path, (lap, posts, paces), 1), walked.places)

    def test_far_ones(self):
        names = slowly.many_names(20)
        stand = slowly.far_stand(names, [0] + [(-1) ** index * index * 10 ** 16 for index in range(19)])
        walk = walk_to(Path(names), stand)
        self.assertTold(stand_then(Path(names), walk, 1), stand)
        begin, end = shown(Path(names), walk, stand)
        self.assertTrue(Fraction(*begin) < 1 <= Fraction(*end))


class Wrong(ToldCase):
    def wrongs(self):
        paces = {"a": 3, "b": 1, "c": 1}
        yield from [(2, {"a": 0, "b": 1, "c": 2}, paces), (True, POSTS, paces), (10, {"a": 0, "b": 4}, paces),
                    (10, {"a": 0, "b": 4, "c": 10}, paces), (10, {"a": 0, "b": 4, "c": 4}, paces),
                    (10, {"a": 4, "b": 0, "c": 7}, paces), (10, {"a": -1, "b": 4, "c": 7}, paces),
                    (10, {"a": 0, "b": True, "c": 7}, paces), (10, {**POSTS, "d": 8}, paces),
                    (10, POSTS, {"a": 3, "b": 1}),
                    (10, POSTS, {"a": 3, "b": 1, "c": -1}), (10, POSTS, {"a": 3, "b": 1, "c": True}),
                    (10, POSTS, {**paces, "d": 1}), (10, POSTS), (10, POSTS, paces, 1), ("10", POSTS, paces),
                    (10, [0, 4, 7], paces), (10, POSTS, [3, 1, 1]), (None, None, None), {10: POSTS}, "abc", None,
                    (10, POSTS, None), (10, None, paces), (10, POSTS, {"a": 3, "b": 1, "c": None})]
        yield from ANYTHING

    def test_wrong_walks(self):
        for thing in self.wrongs():
            self.assertTold(is_walk(ABC, thing), False)
            self.assertRefused(BadWalk, {"walk": thing}, stand_then, ABC, thing, -1)
            self.assertRefused(BadWalk, {"walk": thing}, caught_at, ABC, thing, None, None, None)
            self.assertRefused(BadWalk, {"walk": thing}, next_catch, ABC, thing, -1)
            self.assertRefused(BadWalk, {"walk": thing}, as_at_first, ABC, thing)
            self.assertRefused(BadWalk, {"walk": thing}, shown, ABC, thing, None)
        self.assertTold(is_walk(ABC, WALK), True)
        self.assertTold(is_walk(ABC, list(WALK)), True)
        self.assertTold(is_walk(ABC, (3, {"c": 2, "b": 1, "a": 0}, {"a": 0, "b": 0, "c": 0})), True)

    def test_wrong_hours(self):
        for thing in (-1, True, False, None, "1", [1], (1, 1), {"a": 1}):
            self.assertRefused(BadHour, {"hour": thing}, stand_then, ABC, WALK, thing)
            self.assertRefused(BadHour, {"hour": thing}, next_catch, ABC, WALK, thing)

    def test_wrong_walkers_and_times(self):
        for thing in ANYTHING:
            if thing not in ("a", "b"):
                self.assertRefused(NoWalker, {"walker": thing}, caught_at, ABC, WALK, thing, None, 0)
                self.assertRefused(NoWalker, {"walker": thing}, caught_at, ABC, WALK, "a", thing, 0)
        for thing in (0, -1, True, None, "1", [1]):
            for one, other in ("ab", "ba", "bc", "aa"):
                self.assertRefused(BadTimes, {"times": thing}, caught_at, ABC, WALK, one, other, thing)

    def test_wrong_stands(self):
        none = {"a": 0, "b": 1, "c": 3}
        self.assertRefused(BadStand, {"stand": none}, shown, ABC, WALK, none)
        self.assertRefused(BadStand, {"stand": none}, walk_to, ABC, none)
        for work in (is_walk, as_at_first, walk_to):
            self.assertRefused(BadPath, {"thing": 1}, work, 1, None)
        for work in (stand_then, next_catch, shown):
            self.assertRefused(BadPath, {"thing": 1}, work, 1, None, None)


class Example(ToldCase):
    def test_the_documents(self):
        self.assertTold(stand_then(ABC, WALK, 2), FIRST)
        self.assertTold(stand_then(ABC, WALK, 3), {"a": 1, "b": 0, "c": 2})
        self.assertTold(shown(ABC, WALK, {"a": 1, "b": 0, "c": 2}), ((2, 1), (7, 2)))
        self.assertTold(shown(ABC, WALK, FIRST), (None, (2, 1)))
        self.assertTold(caught_at(ABC, WALK, "a", "b", 2), (7, 1))
        self.assertTold(caught_at(ABC, WALK, "a", "c", 1), (7, 2))
        self.assertTold(next_catch(ABC, WALK, 2), ((2, 1), [("a", "b")]))
        self.assertTold(as_at_first(ABC, WALK), (5, 1))


if __name__ == "__main__":
    unittest.main()

"""Section 13 of the document: paces told back from looks."""

import itertools
import random
import unittest

from ringwalkers.errors import BadPath, NoWalker
from ringwalkers.pacelooks import pace_ring, pace_span, paces_for, room, surely_faster
from ringwalkers.paths import Path
from ringwalkers.refusals import BadLap, BadLooks, BadPosts, NoPaces
from ringwalkers.walks import stand_then, walk_to

from tests import slowly
from tests.anything import ANYTHING
from tests.told import ToldCase

ABC = Path(["a", "b", "c"])
POSTS = {"a": 0, "b": 4, "c": 7}
FIRST = {"a": 0, "b": 1, "c": 2}
LOOK = (3, {"a": 1, "b": 0, "c": 2})
# Paces no more than so far apart are tried.
FARTHEST = 30


def times_caught(lap, lead, faster, hour):
    """How often who is so much faster caught the other one below an hour, by trying each lap."""
    times = 0
    way = -lead % lap
    while way < faster * hour:
        times += 1
        way += lap
    return times


def net_shown(lap, lead, faster, hour):
    """The net at an hour of one whose post and pace are so much above the other's."""
    if faster < 0:
        return -times_caught(lap, -lead, -faster, hour)
    return times_caught(lap, lead, faster, hour)


class Scene:
    """A small path with posts and looks, and all differences of paces that fit each pair."""

    def __init__(self, names, lap, posts, looks):
        self.names = names
        self.path = Path(names)
        self.lap = lap
        self.posts = posts
        self.looks = looks
        self.fitting = {pair: self.fitting_pair(*pair) for pair in slowly.all_pairs(names)}

    def fitting_pair(self, one, other):
        found = range(-FARTHEST, FARTHEST + 1)
        for hour, stand in self.looks:
            wanted = slowly.net_by(self.names, stand, one, other)
            lead = self.posts[one] - self.posts[other]
            found = [faster for faster in found if net_shown(self.lap, lead, faster, hour) == wanted]
        return found

    def all_paces(self):
        """All paces that fit, the first one's being FARTHEST."""
        first = self.names[0]
        choices = [[FARTHEST]]
        for name in self.names[1:]:
            choices.append([FARTHEST - faster for faster in self.fitting[first, name]])
        for paces in itertools.product(*choices):
            paces = dict(zip(self.names, paces))
            if all(paces[one] - paces[other] in self.fitting[one, other] for one, other in self.fitting):
                yield paces

    def arguments(self):
        return self.path, self.lap, self.posts, self.looks


def drawn_scenes(seed, share):
    chance = random.Random(seed)
    for many, depth in ((2, 2), (3, 3), (3, 4), (4, 2)):
        names = slowly.names_of(many)
        near = list(slowly.explore(names, depth).values())
        for turn in range(share):
            lap = chance.randint(many, many + 4)
            posts = dict(zip(names, sorted(chance.sample(range(lap), many))))
            looks = []
            paces = {name: chance.randint(0, 4) for name in names}
            for _ in range(chance.randint(1, 3)):
                hour = chance.randint(2, 5) if turn % 3 else chance.randint(1, 3)
                stand = chance.choice(near).places
                if turn % 2:
                    stand = stand_then(Path(names), (lap, posts, paces), hour)
                looks.append((hour, stand))
            yield Scene(names, lap, posts, looks)


class Rooms(ToldCase):
    def test_each_look_lets_so_much(self):
        for scene in drawn_scenes(1, 60):
            for hour, stand in scene.looks:
                alone = Scene(scene.names, scene.lap, scene.posts, [(hour, stand)])
                for one, other in slowly.all_pairs(scene.names):
                    lets = [faster for faster in range(-FARTHEST, FARTHEST + 1)
                            if net_shown(scene.lap, scene.posts[one] - scene.posts[other], faster, hour)
                            <= slowly.net_by(scene.names, stand, one, other)]
                    self.assertTold(room(*alone.arguments(), one, other), lets[-1])
                    self.assertEqual(lets, list(range(-FARTHEST, lets[-1] + 1)))

    def test_the_least_of_all_looks(self):
        for scene in drawn_scenes(2, 20):
            for one, other in itertools.product(scene.names, repeat=2):
                rooms = [room(scene.path, scene.lap, scene.posts, [look], one, other) for look in scene.looks]
                self.assertTold(room(*scene.arguments(), one, other), min(rooms))
                if one == other:
                    self.assertEqual(rooms, [0] * len(rooms))

    def test_without_looks(self):
        self.assertTold(room(ABC, 10, POSTS, [], "a", "b"), None)
        self.assertTold(room(ABC, 10, POSTS, (), "a", "a"), 0)
        self.assertTold(paces_for(ABC, 10, POSTS, []), {"a": 0, "b": 0, "c": 0})
        self.assertTold(pace_ring(ABC, 10, POSTS, []), None)
        self.assertTold(pace_span(ABC, 10, POSTS, [], "a", "b"), (None, None))
        self.assertTold(pace_span(ABC, 10, POSTS, [], "b", "b"), (0, 0))
        self.assertTold(surely_faster(ABC, 10, POSTS, []), [])


class PacesOrRing(ToldCase):
    def test_drawn_looks(self):
        found = {True: 0, False: 0}
        for scene in drawn_scenes(3, 60):
            fitting = list(scene.all_paces())
            found[fitting == []] += 1
            told = paces_for(*scene.arguments())
            ring = pace_ring(*scene.arguments())
            self.assertEqual(told is None, ring is not None)
            self.assertEqual(told is None, fitting == [])
            if ring is not None:
                self.check_ring(scene, ring)
            else:
                self.check_paces(scene, told, fitting)
        self.assertGreater(min(found.values()), 20)

    def check_ring(self, scene, ring):
        self.assertGreaterEqual(len(ring), 2)
        self.assertEqual(len(set(ring)), len(ring))
        rooms = [room(*scene.arguments(), one, other) for one, other in zip(ring, ring[1:] + ring[:1])]
        self.assertLess(sum(rooms), 0)
        self.assertRefused(NoPaces, {}, surely_faster, *scene.arguments())
        self.assertRefused(NoPaces, {}, pace_span, *scene.arguments(), ring[0], ring[1])
        self.assertRefused(NoPaces, {}, pace_span, *scene.arguments(), ring[1], ring[1])
        self.assertRefused(NoWalker, {"walker": "z"}, pace_span, *scene.arguments(), ring[0], "z")

    def check_paces(self, scene, told, fitting):
        names = scene.names
        self.assertEqual(list(told), names)
        for hour, stand in scene.looks:
            self.assertTold(stand_then(scene.path, (scene.lap, scene.posts, told), hour), stand)
        # Of each that fits, the same with its least pace 0 fits, too.
        lowered = [{name: paces[name] - min(paces.values()) for name in names} for paces in fitting]
        self.assertIn(told, lowered)
        self.assertEqual(told, {name: min(paces[name] for paces in lowered) for name in names})
        surely = []
        for one, other in slowly.all_pairs(names):
            differences = sorted({paces[one] - paces[other] for paces in fitting})
            self.assertTold(pace_span(*scene.arguments(), one, other), (differences[0], differences[-1]))
            self.assertEqual(differences, list(range(differences[0], differences[-1] + 1)))
            if differences[0] >= 1:
                surely.append((one, other))
        self.assertTold(surely_faster(*scene.arguments()), surely)
        self.assertTold(pace_span(*scene.arguments(), names[1], names[1]), (0, 0))

    def test_in_whatever_order(self):
        for scene in drawn_scenes(4, 30):
            for looks in itertools.permutations(scene.looks):
                turned = [(hour, dict(reversed(list(stand.items())))) for hour, stand in looks]
                arguments = (scene.path, scene.lap, dict(reversed(list(scene.posts.items()))), turned + turned[:1])
                self.assertTold(paces_for(*arguments), paces_for(*scene.arguments()))
                self.assertTold(pace_ring(*arguments), pace_ring(*scene.arguments()))

    def test_great_numbers(self):
        chance = random.Random(5)
        names = slowly.many_names(20)
        path = Path(names)
        for turn in range(6):
            lap = 10 ** 18 - turn
            posts = dict(zip(names, sorted(chance.sample(range(lap), 20))))
            paces = {name: chance.randint(0, 10 ** (18 if turn % 2 else 17)) for name in names}
            hours = [1, 10 ** 9 + 7, 10 ** 18, 3, 10 ** 12, 10 ** 18 + 5, 2, 77, 10 ** 6, 10 ** 3, 4, 5]
            looks = [(hour, stand_then(path, (lap, posts, paces), hour)) for hour in hours]
            told = paces_for(path, lap, posts, looks)
            for hour, stand in looks:
                self.assertTold(stand_then(path, (lap, posts, told), hour), stand)
            for name in names:
                self.assertLessEqual(told[name], paces[name])
            self.assertTold(pace_ring(path, lap, posts, looks), None)
            surely = surely_faster(path, lap, posts, looks)
            for one, other in slowly.all_pairs(names)[::9]:
                least, most = pace_span(path, lap, posts, looks, one, other)
                self.assertTrue(least <= paces[one] - paces[other] <= most)
                self.assertEqual((one, other) in surely, least >= 1)
            wrong = [(10 ** 18, looks[2][1]), (10 ** 18 + 1, stand_then(path, (lap, posts, paces), 10 ** 17))]
            ring = pace_ring(path, lap, posts, wrong)
            self.check_ring(Given(path, lap, posts, wrong), ring)
            self.assertTold(paces_for(path, lap, posts, wrong), None)

    def test_every_stand_is_had(self):
        for names, near in slowly.small_paths():
            path = Path(names)
            for walked in near:
                lap, posts, paces = walk_to(path, walked.places)
                told = paces_for(path, lap, posts, [(1, walked.places)])
                self.assertTrue(all(told[name] <= paces[name] for name in names))
                self.assertTold(stand_then(path, (lap, posts, told), 1), walked.places)


class Given:
    """Great arguments, as check_ring takes them."""

    def __init__(self, *arguments):
        self.given = arguments

    def arguments(self):
        return self.given


class Wrong(ToldCase):
    def works(self):
        yield paces_for
        yield pace_ring
        yield surely_faster
        yield lambda *args: room(*args, None, None)
        yield lambda *args: pace_span(*args, None, None)

    def test_wrong_laps_and_posts(self):
        for work in self.works():
            for thing in (2, 0, -1, True, None, "10", [10], 1):
                self.assertRefused(BadLap, {"lap": thing}, work, ABC, thing, None, None)
            for thing in [{"a": 0, "b": 4}, {"a": 0, "b": 4, "c": 10}, {"a": 0, "b": 0, "c": 1},
                          {"a": 5, "b": 4, "c": 7},
                          {"a": -1, "b": 4, "c": 7}, {"a": False, "b": 4, "c": 7}, [0, 4, 7], {**POSTS, "d": 8}]:
                self.assertRefused(BadPosts, {"posts": thing}, work, ABC, 10, thing, None)
            for thing in ANYTHING:
                self.assertRefused(BadPosts, {"posts": thing}, work, ABC, 10, thing, None)
            self.assertRefused(BadPath, {"thing": None}, work, None, None, None, None)

    def test_wrong_looks(self):
        none = {"a": 0, "b": 1, "c": 3}
        wrongs = [(0, FIRST), (-1, FIRST), (True, FIRST), ("1", FIRST), (None, FIRST), (1, none), (1, None), (1,),
                  (1, FIRST, 1),
                  FIRST, 1, None, "ab", {1: FIRST}, [FIRST, 1]]
        for work in self.works():
            for thing in (None, 3, True, "", "ab", {}, {0: LOOK}, FIRST, ABC):
                self.assertRefused(BadLooks, {"index": 0}, work, ABC, 10, POSTS, thing)
            for thing in wrongs + ANYTHING:
                self.assertRefused(BadLooks, {"index": 2}, work, ABC, 10, POSTS, [LOOK, list(LOOK), thing, None])
                self.assertRefused(BadLooks, {"index": 0}, work, ABC, 10, POSTS, (thing,))
            self.assertRefused(BadLooks, {"index": 0}, work, ABC, 10, POSTS, LOOK)

    def test_wrong_walkers(self):
        for work in (room, pace_span):
            for thing in ANYTHING:
                if thing not in ("a", "b"):
                    self.assertRefused(NoWalker, {"walker": thing}, work, ABC, 10, POSTS, [LOOK], thing, None)
                    self.assertRefused(NoWalker, {"walker": thing}, work, ABC, 10, POSTS, [], "a", thing)

    def test_no_paces_goes_last(self):
        ring = [(1, {"a": 1, "b": 0, "c": 2}), (2, FIRST)]
        self.assertRefused(NoWalker, {"walker": None}, pace_span, ABC, 10, POSTS, ring, None, None)
        self.assertRefused(NoPaces, {}, pace_span, ABC, 10, POSTS, ring, "a", "c")
        self.assertRefused(NoPaces, {}, pace_span, ABC, 10, POSTS, ring, "a", "a")
        self.assertRefused(NoPaces, {}, surely_faster, ABC, 10, POSTS, ring)
        self.assertTold(room(ABC, 10, POSTS, ring, "a", "a"), 0)


class Example(ToldCase):
    def test_the_documents(self):
        self.assertTold(paces_for(ABC, 10, POSTS, [LOOK]), {"a": 2, "b": 0, "c": 0})
        self.assertTold(room(ABC, 10, POSTS, [LOOK], "a", "b"), 4)
        self.assertTold(room(ABC, 10, POSTS, [LOOK], "b", "a"), -2)
        self.assertTold(room(ABC, 10, POSTS, [LOOK], "b", "c"), 1)
        self.assertTold(room(ABC, 10, POSTS, [LOOK], "a", "c") + room(ABC, 10, POSTS, [LOOK], "b", "a"), 0)
        self.assertTold(pace_span(ABC, 10, POSTS, [LOOK], "a", "b"), (2, 4))
        self.assertTold(pace_span(ABC, 10, POSTS, [LOOK], "b", "c"), (-2, 0))


if __name__ == "__main__":
    unittest.main()

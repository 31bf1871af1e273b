"""Section 15 of the document: one walker said nothing, numbers made and nets mixed."""

import itertools
import random
import unittest

from ringwalkers.errors import BadNets, BadPart, BadPath
from ringwalkers.halftold import stand_of_mixed, stand_without, without_fault
from ringwalkers.madenumbers import numbers_made, numbers_suffered, stand_of_made
from ringwalkers.netnumbers import nets_of, stand_of_nets
from ringwalkers.paths import Path
from ringwalkers.refusals import BadMade

from tests import slowly
from tests.anything import ANYTHING
from tests.told import ToldCase

ABC = Path(["a", "b", "c"])
STAND = {"a": 4, "b": 0, "c": -1}
FAR = 10 ** 15


def told_by(walked, name):
    return slowly.made(walked, name), slowly.suffered(walked, name)


def net_of(walked, name):
    return slowly.made(walked, name) - slowly.suffered(walked, name)


class Without(ToldCase):
    def test_all_small_parts(self):
        # Each overtaking is told by one of those who speak at least: so all stands that can be meant are near.
        for many, most, depth in ((2, 4, 8), (3, 2, 24), (4, 1, 12)):
            names = slowly.names_of(many)
            path = Path(names)
            near = list(slowly.explore(names, depth).values())
            counts = {"stand": 0, "together": 0, "numbers": 0}
            for lacking in names:
                others = [name for name in names if name != lacking]
                by_part = {}
                for walked in near:
                    by_part.setdefault(tuple(told_by(walked, name) for name in others), []).append(walked)
                twos = list(itertools.product(range(most + 1), repeat=2))
                for row in itertools.product(twos, repeat=len(others)):
                    found = by_part.get(row, [])
                    part = dict(zip(others, row))
                    self.assertLessEqual(len(found), 1)
                    told = stand_without(path, part)
                    fault = without_fault(path, part)
                    if found:
                        self.assertTold(told, found[0].places)
                        self.assertIsNone(fault)
                        counts["stand"] += 1
                    else:
                        self.assertIsNone(told)
                        self.assertTold(fault, self.fault(names, near, part, lacking))
                        counts[fault[0]] += 1
            self.assertGreater(min(counts.values()) + (many == 2), 0)

    def fault(self, names, near, part, lacking):
        nets = {name: made - suffered for name, (made, suffered) in part.items()}
        nets[lacking] = -sum(nets.values())
        many = len(names)
        for one, other in itertools.combinations(names, 2):
            if (names.index(one) + nets[one] - names.index(other) - nets[other]) % many == 0:
                return "together", one, other
        meant = [walked for walked in near if all(net_of(walked, name) == nets[name] for name in names)]
        for name in names:
            if name in part and told_by(meant[0], name) != part[name]:
                return "numbers", name

    def test_near_and_far_stands(self):
        for names, near in slowly.small_paths():
            path = Path(names)
            for walked in near:
                for lacking in names:
                    part = {name: list(told_by(walked, name)) for name in names if name != lacking}
                    self.assertTold(stand_without(path, part), walked.places)
                    self.assertIsNone(without_fault(path, part))
        names = slowly.many_names(20)
        path = Path(names)
        stand = slowly.far_stand(names, [0] + [(-1) ** index * (FAR // 20 + index) for index in range(19)])
        made, suffered = numbers_made(path, stand), numbers_suffered(path, stand)
        for lacking in names:
            part = {name: (made[name], suffered[name]) for name in names[::-1] if name != lacking}
            self.assertTold(stand_without(path, part), stand)
            name = names[5] if lacking != names[5] else names[6]
            part[name] = (made[name] + 1, suffered[name] + 1)
            self.assertIsNone(stand_without(path, part))
            self.assertTold(without_fault(path, part), ("numbers", name))

    def test_two_who_say_nothing_leave_several_stands(self):
        # b alone tells nothing: whether a overtook c, or c overtook a, or neither.
        stands = [walked for walked in slowly.explore(["a", "b", "c"], 3).values() if told_by(walked, "b") == (0, 0)]
        self.assertGreater(len(stands), 1)

    def test_wrong_parts(self):
        bad = [{}, {"a": (0, 0)}, {"a": (0, 0), "b": (0, 0), "c": (0, 0)}, {"a": (0, 0), "d": (0, 0)},
               {"a": (0, 0), "b": (0, -1)}, {"a": (0, 0), "b": (-1, 0)}, {"a": (0, 0), "b": (True, 0)},
               {"a": (0, 0), "b": (0, 0, 0)}, {"a": (0, 0), "b": (0,)}, {"a": (0, 0), "b": 0}, {"a": (0, 0), "b": "00"},
               {"a": (0, 0), None: (0, 0)}, {"a": (0, 0), "b": {0: 0, 1: 0}}, [("a", (0, 0)), ("b", (0, 0))]]
        for thing in ANYTHING + bad:
            for work in (stand_without, without_fault):
                self.assertRefused(BadPart, {"part": thing}, work, ABC, thing)
                if not isinstance(thing, Path):
                    self.assertRefused(BadPath, {"thing": thing}, work, thing, None)


class Mixed(ToldCase):
    def test_near_stands(self):
        for names, near in slowly.small_paths():
            path = Path(names)
            for walked in near[:60]:
                for size in range(len(names) + 1):
                    for some in itertools.combinations(names, size):
                        made = {name: slowly.made(walked, name) for name in some}
                        nets = {name: net_of(walked, name) for name in names if name not in some}
                        self.assertTold(stand_of_mixed(path, made, nets), walked.places)

    def test_small_numbers(self):
        # Deep enough that each stand that can be meant is among them.
        for many, depth, most in ((2, 12, 4), (3, 26, 2)):
            names = slowly.names_of(many)
            path = Path(names)
            near = list(slowly.explore(names, depth).values())
            nones = 0
            for size in range(many + 1):
                for some in itertools.combinations(names, size):
                    rest = [name for name in names if name not in some]
                    meant = {}
                    for walked in near:
                        key = (tuple(slowly.made(walked, name) for name in some),
                               tuple(net_of(walked, name) for name in rest))
                        meant.setdefault(key, []).append(walked)
                    for made in itertools.product(range(most + 1), repeat=size):
                        for nets in itertools.product(range(-most, most + 1), repeat=len(rest)):
                            found = meant.get((made, nets), [])
                            self.assertLessEqual(len(found), 1)
                            told = stand_of_mixed(path, dict(zip(some, made)), dict(zip(rest, nets)))
                            self.assertTold(told, found[0].places if found else None)
                            nones += not found
            self.assertGreater(nones, 20)

    def test_greatest_numbers(self):
        chance = random.Random(16)
        names = slowly.names_of(5)
        path = Path(names)
        met = 0
        for _ in range(3000):
            numbers = {name: chance.randint(0, 12) for name in names}
            numbers[chance.choice(names)] = 0
            stand = stand_of_made(path, numbers)
            nets = nets_of(path, stand)
            some = chance.sample(names, chance.randint(0, 5))
            if all(-12 <= nets[name] <= 12 for name in names):
                met += 1
                rest = {name: nets[name] for name in names if name not in some}
                self.assertTold(stand_of_mixed(path, {name: numbers[name] for name in some}, rest), stand)
        self.assertGreater(met, 300)

    def test_far_ones(self):
        chance = random.Random(17)
        for many in (2, 3, 4, 5, 5, 5, 8):
            names = slowly.names_of(many)
            path = Path(names)
            for far in (40, 10 ** 4, FAR, 10 ** 18):
                stand = slowly.far_stand(names, [0] + [chance.randint(-far, far) for _ in range(many - 1)])
                made, nets = numbers_made(path, stand), nets_of(path, stand)
                for _ in range(6):
                    some = chance.sample(names, chance.randint(0, many))
                    rest = {name: nets[name] for name in names if name not in some}
                    told = stand_of_mixed(path, {name: made[name] for name in some}, rest)
                    self.assertTold(told, stand)
                    if rest and some:
                        # Just one net is another: then nobody's numbers are right, or all of them in another stand.
                        rest[chance.choice(list(rest))] += chance.choice([-far, -1, 1, far])
                        told = stand_of_mixed(path, {name: made[name] for name in some}, rest)
                        if told is not None:
                            self.assertEqual({name: numbers_made(path, told)[name] for name in some},
                                             {name: made[name] for name in some})
                            self.assertEqual({name: nets_of(path, told)[name] for name in rest}, rest)

    def test_all_made_and_all_nets(self):
        self.assertTold(stand_of_mixed(ABC, {"a": 4, "b": 1, "c": 0}, {}), STAND)
        self.assertTold(stand_of_mixed(ABC, {}, {"a": 4, "b": -1, "c": -3}), STAND)
        self.assertTold(stand_of_mixed(ABC, {"a": 1, "b": 1, "c": 1}, {}), None)
        self.assertTold(stand_of_mixed(ABC, {}, {"a": 1, "b": 0, "c": 0}), None)
        self.assertTold(stand_of_mixed(ABC, {"a": 12, "b": 12}, {"c": 12}), None)
        for row in itertools.product((-12, -1, 0, 5, 12), repeat=3):
            nets = dict(zip("abc", row))
            self.assertTold(stand_of_mixed(ABC, {}, nets), stand_of_nets(ABC, nets))

    def test_made_of_some_and_suffered_of_others_does_not_tell(self):
        stands = [walked for walked in slowly.explore(["a", "b"], 4).values()
                  if slowly.made(walked, "a") == 0 and slowly.suffered(walked, "b") == 0]
        self.assertEqual(len(stands), 5)

    def test_wrong_ones(self):
        for thing in ANYTHING:
            if not isinstance(thing, dict) or thing in ({0: "a", 1: "b", 2: "c"}, {None: 1}, {"a": 0, "b": 1, "d": 2}):
                self.assertRefused(BadMade, {"made": thing}, stand_of_mixed, ABC, thing, thing)
            if thing not in ({"a": 0},):
                self.assertRefused(BadNets, {"nets": thing}, stand_of_mixed, ABC, {"b": 0, "c": 0}, thing)
        for thing in ({"a": -1}, {"a": True}, {"a": None}, {"a": "1"}, {"d": 1}, {("a",): 1}):
            self.assertRefused(BadMade, {"made": thing}, stand_of_mixed, ABC, thing, {})
        for thing in ({"b": 0}, {"a": 0, "b": 0}, {"b": 0, "c": 0, "d": 0}, {"b": 0, "c": None}, {"b": 0, "c": False}):
            self.assertRefused(BadNets, {"nets": thing}, stand_of_mixed, ABC, {"a": 0}, thing)


class Example(ToldCase):
    def test_the_documents(self):
        self.assertTold(stand_without(ABC, {"a": (4, 0), "b": (1, 2)}), STAND)
        self.assertTold(stand_of_mixed(ABC, {"b": 1, "c": 0}, {"a": 4}), STAND)


if __name__ == "__main__":
    unittest.main()

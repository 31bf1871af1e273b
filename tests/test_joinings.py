"""Section 18 of the document: newcomers, and two paths that become one."""

import functools
import itertools
import unittest

from ringwalkers.errors import BadName, BadPath, BadStand, BadTotal
from ringwalkers.joinings import count_joined, joined, joint_clash, joint_path, with_total
from ringwalkers.paths import Path, is_stand
from ringwalkers.refusals import BadSums, CommonWalker
from ringwalkers.tables import of_some

from tests import slowly
from tests.anything import ANYTHING
from tests.told import ToldCase

ABC = Path(["a", "b", "c"])
XY = Path(["x", "y"])
STAND = {"a": 2, "b": 1, "c": 0}
FIRST_XY = {"x": 0, "y": 1}
FAR = 10 ** 17


def nets_among(names, nets):
    return tuple(nets[pair] for pair in slowly.all_pairs(names))


class Newcomer(ToldCase):
    def test_small_paths(self):
        for many, near_depth, depth, most in ((2, 3, 12, 4), (3, 2, 13, 3)):
            names = slowly.names_of(many)
            longer = names + ["new"]
            by_total = {}
            for walked in slowly.explore(longer, depth).values():
                total = sum(walked.nets["new", name] for name in names)
                by_total.setdefault((nets_among(names, walked.nets), total), []).append(walked)
            for walked in slowly.explore(names, near_depth).values():
                for total in range(-most, most + 1):
                    found = by_total[nets_among(names, walked.nets), total]
                    self.assertEqual(len(found), 1)
                    told = with_total(Path(names), walked.places, "new", total)
                    self.assertTold(told, (Path(longer), found[0].places))

    def test_one_more_is_of_the_one_right_ahead(self):
        for names, near in slowly.small_paths():
            path = Path(names)
            for walked in near[:25]:
                for total in (-5, 0, 1, 4):
                    longer, before = with_total(path, walked.places, "z", total)
                    _, behind = with_total(path, walked.places, "z", total + 1)
                    other = dict(slowly.moves(before))["z"]
                    self.assertEqual(slowly.moved(before, "z", other), behind)

    def test_far_ones(self):
        for many in (2, 19, 20):
            names = slowly.many_names(many)
            stand = slowly.far_stand(names, [0] + [(-1) ** index * (FAR + index) for index in range(many - 1)])
            for total in (-FAR, -1, 0, FAR, 10 ** 30):
                path, told = with_total(Path(names), stand, "new", total)
                self.assertEqual(path.walkers(), names + ["new"])
                self.assertTrue(is_stand(path, told))
                nets = [slowly.net_by(names + ["new"], told, "new", name) for name in names]
                self.assertEqual(sum(nets), total)
                self.assertEqual(nets, [(many + total - 1 - stand[name]) // many for name in names])
                self.assertTold(of_some(path, told, names), (Path(names), stand))

    def test_wrong_ones(self):
        for thing in ANYTHING + ["c", "new one", "9"]:
            if thing not in ("d", "ab", "abc", "walker"):
                self.assertRefused(BadName, {"name": thing}, with_total, ABC, STAND, thing, None)
            if isinstance(thing, bool) or not isinstance(thing, int):
                self.assertRefused(BadTotal, {"total": thing}, with_total, ABC, STAND, "d", thing)


class Scene:
    """Two small paths, and all near stands of the joint one by the nets among each and the sums over the second."""

    def __init__(self, first, second, depth):
        self.first = first
        self.second = second
        self.depth = depth
        self.found = {}
        for walked in slowly.explore(first + second, depth).values():
            sums = tuple(sum(walked.nets[one, other] for other in second) for one in first)
            key = (nets_among(first, walked.nets), nets_among(second, walked.nets), sums)
            self.found.setdefault(key, []).append(walked)

    def stands_by_sums(self, begun, other):
        parts = (nets_among(self.first, begun.nets), nets_among(self.second, other.nets))
        return {key[2]: walked for key, walked in self.found.items() if key[:2] == parts}


@functools.lru_cache(maxsize=None)
def scenes():
    return [Scene(["b", "a"], ["x", "c"], 14), Scene(["c", "a", "b"], ["y", "x"], 10),
            Scene(["c", "a"], ["z", "x", "y"], 10)]


class Joined(ToldCase):
    def test_small_paths(self):
        for scene in scenes():
            self.check(scene, 2 if len(scene.first + scene.second) == 4 else 1)

    def check(self, scene, most):
        first, second = Path(scene.first), Path(scene.second)
        met = {True: 0, False: 0}
        begun = list(slowly.explore(scene.first, most).values())
        others = list(slowly.explore(scene.second, most).values())
        for one, other in itertools.product(begun, others):
            by_sums = scene.stands_by_sums(one, other)
            for row in itertools.product(range(-2, 3), repeat=len(scene.first)):
                sums = dict(zip(scene.first, row))
                told = joined(first, one.places, second, other.places, sums)
                clash = joint_clash(first, one.places, second, other.places, sums)
                met[row in by_sums] += 1
                if row in by_sums:
                    self.assertEqual(len(by_sums[row]), 1)
                    self.assertTold(told, by_sums[row][0].places)
                    self.assertIsNone(clash)
                else:
                    self.assertIsNone(told)
                    self.assertTold(clash, self.clash(one, len(scene.second), sums))
        self.assertGreater(min(met.values()), 50)

    def clash(self, begun, many, sums):
        for one, other in itertools.combinations(begun.places, 2):
            laps = (begun.places[one] - begun.places[other]) // len(begun.places)
            if not many * laps <= sums[one] - sums[other] <= many * (laps + 1):
                return one, other

    def test_counted(self):
        for scene in scenes():
            first, second = Path(scene.first), Path(scene.second)
            for one in slowly.explore(scene.first, 1).values():
                for other in slowly.explore(scene.second, 1).values():
                    by_sums = scene.stands_by_sums(one, other)
                    for total in range(-3, 4):
                        found = [sums for sums in by_sums if sum(sums) == total]
                        told = count_joined(first, one.places, second, other.places, total)
                        self.assertTold(told, len(found))

    def test_counted_by_trying(self):
        for many, other_many in ((2, 5), (3, 4), (4, 2), (4, 3)):
            names = slowly.names_of(many)
            others = slowly.many_names(other_many)
            # As told by one number each, sums that can be differ by so little that all lie near their mean.
            stand = slowly.far_stand(names, [0] + [(-1) ** index for index in range(many - 1)])
            other_stand = slowly.far_stand(others, [0, 2] + [-1] * (other_many - 2))
            for total in (-1, 0, 6, 7):
                found = 0
                near = range(total // many - 3 * other_many, total // many + 3 * other_many + 1)
                for row in itertools.product(near, repeat=many - 1):
                    sums = dict(zip(names, row + (total - sum(row),)))
                    if joint_clash(Path(names), stand, Path(others), other_stand, sums) is None:
                        found += 1
                self.assertTold(count_joined(Path(names), stand, Path(others), other_stand, total), found)

    def test_far_ones(self):
        names, others = ["a{}".format(index) for index in range(10)], ["b{}".format(index) for index in range(10)]
        first, second = Path(names), Path(others)
        stand = slowly.far_stand(names, [0] + [(-1) ** index * (FAR + index) for index in range(9)])
        other_stand = slowly.far_stand(others, [0] + [(-1) ** index * (3 * FAR + index) for index in range(9)])
        # Each one has the sum of somebody who is that far on the others' path.
        sums = {name: stand[name] // 10 * 10 + 5 for name in names}
        told = joined(first, stand, second, other_stand, sums)
        joint = joint_path(first, second)
        self.assertTold(joint, Path(names + others))
        self.assertEqual(list(told), names + others)
        self.assertTrue(is_stand(joint, told))
        self.assertTold(of_some(joint, told, names), (first, stand))
        self.assertTold(of_some(joint, told, others), (second, other_stand))
        for name in names:
            self.assertEqual(sum(slowly.net_by(names + others, told, name, other) for other in others), sums[name])
        self.assertIsNone(joint_clash(first, stand, second, other_stand, sums))
        sums["a4"] += 6 * FAR
        self.assertTold(joint_clash(first, stand, second, other_stand, sums), ("a0", "a4"))
        self.assertIsNone(joined(first, stand, second, other_stand, sums))

    def test_many_counted(self):
        names, others = slowly.many_names(18), ["x", "y"]
        first, second = Path(names), Path(others)
        stand = {name: index for index, name in enumerate(names)}
        # Lists of seventeen numbers from 0 to 2 that do not fall.
        by_rest = [0] * 18
        for ones in range(18):
            for twos in range(18 - ones):
                by_rest[(ones + 2 * twos) % 18] += 1
        for total in (0, 1, 17, 18, -5, 10 ** 18):
            self.assertTold(count_joined(first, stand, second, FIRST_XY, total), by_rest[total % 18])


class Wrong(ToldCase):
    def test_paths(self):
        calls = [lambda *two: joint_path(*two), lambda one, two: joined(one, None, two, None, None),
                 lambda one, two: joint_clash(one, None, two, None, None),
                 lambda one, two: count_joined(one, None, two, None, None)]
        for work in calls:
            for thing in ANYTHING:
                if not isinstance(thing, Path):
                    self.assertRefused(BadPath, {"thing": thing}, work, thing, None)
                    self.assertRefused(BadPath, {"thing": thing}, work, ABC, thing)
            self.assertRefused(CommonWalker, {"name": "a"}, work, ABC, ABC)
            self.assertRefused(CommonWalker, {"name": "b"}, work, Path(["z", "b", "c"]), Path(["c", "x", "b"]))

    def test_stands(self):
        none = {"x": 0, "y": 2}
        for work in (joined, joint_clash, count_joined):
            self.assertRefused(BadStand, {"stand": none}, work, ABC, none, XY, none, None)
            self.assertRefused(BadStand, {"stand": none}, work, ABC, STAND, XY, none, None)
            self.assertRefused(BadStand, {"stand": FIRST_XY}, work, ABC, FIRST_XY, XY, STAND, None)
            self.assertRefused(BadStand, {"stand": STAND}, work, ABC, STAND, XY, STAND, None)

    def test_sums_and_totals(self):
        bad = [{}, {"a": 0, "b": 0}, {"a": 0, "b": 0, "c": 0, "x": 0}, {"a": 0, "b": 0, "c": True},
               {"a": 0, "b": 0, "c": None}, {"x": 0, "y": 0}, {"a": 0, "b": 0, "x": 0}]
        for thing in ANYTHING + bad:
            for work in (joined, joint_clash):
                self.assertRefused(BadSums, {"sums": thing}, work, ABC, STAND, XY, FIRST_XY, thing)
            if isinstance(thing, bool) or not isinstance(thing, int):
                self.assertRefused(BadTotal, {"total": thing}, count_joined, ABC, STAND, XY, FIRST_XY, thing)


class Example(ToldCase):
    def test_the_documents(self):
        path, told = with_total(ABC, STAND, "d", 2)
        self.assertEqual([slowly.net_by(path.walkers(), told, "d", name) for name in "abc"], [0, 1, 1])
        first = {"a": 2, "b": 1, "c": 0}
        self.assertIsNone(joint_clash(ABC, first, XY, FIRST_XY, {"a": 5, "b": 4, "c": 4}))
        self.assertIsNotNone(joined(ABC, first, XY, FIRST_XY, {"a": 5, "b": 4, "c": 4}))
        self.assertTold(joint_clash(ABC, first, XY, FIRST_XY, {"a": 3, "b": 4, "c": 4}), ("a", "b"))
        self.assertIsNone(joined(ABC, first, XY, FIRST_XY, {"a": 3, "b": 4, "c": 4}))


if __name__ == "__main__":
    unittest.main()

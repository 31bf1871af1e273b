"""Section 6 of the document: net numbers."""

import itertools
import unittest

from ringwalkers.errors import BadNets
from ringwalkers.netnumbers import nets_clash, nets_of, stand_of_nets
from ringwalkers.paths import Path

from tests import slowly
from tests.told import ToldCase

ABC = Path(["a", "b", "c"])


class Nets(ToldCase):
    def test_the_overtakings_on_the_way(self):
        for names, stands in slowly.small_paths():
            path = Path(names)
            for walked in stands:
                nets = {name: slowly.made(walked, name) - slowly.suffered(walked, name) for name in names}
                self.assertTold(nets_of(path, walked.places), nets)
                self.assertTold(stand_of_nets(path, nets), walked.places)
                self.assertTold(nets_clash(path, nets), None)
                self.assertEqual(walked.places, {name: index + nets[name] for index, name in enumerate(names)})

    def test_all_small_nets(self):
        for many, most, depth in ((2, 5, 6), (3, 3, 6), (4, 2, 7)):
            names = slowly.names_of(many)
            path = Path(names)
            near = {slowly.key(walked.places): walked.places for walked in slowly.explore(names, depth).values()}
            for values in itertools.product(range(-most, most + 1), repeat=many):
                nets = dict(zip(names, values))
                stand = near.get(tuple(index + value for index, value in enumerate(values)))
                self.assertTold(stand_of_nets(path, nets), stand)
                clash = nets_clash(path, nets)
                self.assertEqual(clash is None, stand is not None)
                self.assertTold(clash, self.slow_clash(names, nets))

    def slow_clash(self, names, nets):
        if sum(nets.values()) != 0:
            return ("sum", sum(nets.values()))
        rests = {name: (index + nets[name]) % len(names) for index, name in enumerate(names)}
        for one, other in itertools.combinations(names, 2):
            if rests[one] == rests[other]:
                return ("together", one, other)
        return None

    def test_far_ones(self):
        for many in (2, 3, 20):
            names = slowly.many_names(many)
            path = Path(names)
            nets = {name: many * (-1) ** index * (10 ** 18 + index) for index, name in enumerate(names)}
            self.assertTold(nets_clash(path, nets) is None, sum(nets.values()) == 0)
            nets[names[0]] -= sum(nets.values())
            self.assertTold(nets_clash(path, nets), None)
            stand = stand_of_nets(path, nets)
            self.assertTold(stand, {name: index + nets[name] for index, name in enumerate(names)})
            self.assertTold(nets_of(path, stand), nets)
            nets[names[-1]] += 10 ** 18
            self.assertTold(nets_clash(path, nets), ("sum", 10 ** 18))
            nets[names[-2]] -= 10 ** 18
            clash = nets_clash(path, nets)
            self.assertTold(clash, self.slow_clash(names, nets))

    def test_wrong_inputs(self):
        right = {"a": 0, "b": 0, "c": 0}
        wrongs = [{"a": 0, "b": 0}, {**right, "d": 0}, {"a": 0, "b": 0, "d": 0}, [("a", 0)], {}, None]
        for name in right:
            for thing in (True, False, None, "0", [0]):
                wrongs.append({**right, name: thing})
        for wrong in wrongs:
            self.assertRefused(BadNets, {"nets": wrong}, stand_of_nets, ABC, wrong)
            self.assertRefused(BadNets, {"nets": wrong}, nets_clash, ABC, wrong)


class Example(ToldCase):
    def test_the_documents(self):
        self.assertTold(stand_of_nets(ABC, {"a": 2, "b": 0, "c": -2}), {"a": 2, "b": 1, "c": 0})
        self.assertTold(nets_clash(ABC, {"a": 1, "b": 0, "c": -1}), ("together", "a", "b"))
        self.assertTold(nets_clash(ABC, {"a": 1, "b": 0, "c": 0}), ("sum", 1))
        self.assertTold(stand_of_nets(ABC, {"a": 1, "b": 0, "c": 0}), None)


if __name__ == "__main__":
    unittest.main()

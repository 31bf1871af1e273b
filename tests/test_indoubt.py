"""Section 15 of the document: numbers, nets and tables of which one may be wrong."""

import itertools
import random
import unittest

from ringwalkers.errors import BadNets, BadNumbers, BadOthers, BadPath, BadTable
from ringwalkers.indoubt import wrong_nets, wrong_numbers, wrong_pairs
from ringwalkers.madenumbers import lists_fault, numbers_made, numbers_suffered
from ringwalkers.netnumbers import nets_of, stand_of_nets
from ringwalkers.paths import Path
from ringwalkers.tables import stand_of_table, table

from tests import slowly
from tests.anything import ANYTHING
from tests.told import ToldCase

ABC = Path(["a", "b", "c"])
STAND = {"a": 4, "b": 0, "c": -1}
FAR = 10 ** 15


def numbers_up_to(many, total):
    """All lists of so many numbers with such a sum or less."""
    return [row for row in itertools.product(range(total + 1), repeat=many) if sum(row) <= total]


def replaced(row, index, value):
    return row[:index] + (value,) + row[index + 1:]


class Numbers(ToldCase):
    def test_all_small_lists(self):
        for many, total in ((2, 6), (3, 4), (4, 2)):
            names = slowly.names_of(many)
            path = Path(names)
            both = {(tuple(slowly.made(walked, name) for name in names),
                     tuple(slowly.suffered(walked, name) for name in names))
                    for walked in slowly.explore(names, total).values()}
            met = {}
            for made, suffered in itertools.product(numbers_up_to(many, total), repeat=2):
                expected = []
                if (made, suffered) not in both:
                    for index, right in itertools.product(range(many), range(total + 1)):
                        if (replaced(made, index, right), suffered) in both:
                            expected.append(("made", names[index], right))
                    for index, right in itertools.product(range(many), range(total + 1)):
                        if (made, replaced(suffered, index, right)) in both:
                            expected.append(("suffered", names[index], right))
                numbers, others = dict(zip(names, made)), dict(zip(names, suffered))
                told = wrong_numbers(path, numbers, others)
                self.assertTold(told, expected)
                words = [word for word, _, _ in told]
                self.assertEqual(len(words), len(set(words)))
                met[tuple(words)] = met.get(tuple(words), 0) + 1
            self.assertEqual(sorted(met), [(), ("made",), ("made", "suffered"), ("suffered",)])

    def test_twenty_far_ones(self):
        names = slowly.many_names(20)
        path = Path(names)
        stand = slowly.far_stand(names, [0] + [(-1) ** index * (FAR // 20 + index) for index in range(19)])
        made, suffered = numbers_made(path, stand), numbers_suffered(path, stand)
        self.assertTold(wrong_numbers(path, made, suffered), [])
        for name in names:
            wrong = dict(made, **{name: made[name] + FAR})
            self.assertIn(("made", name, made[name]), wrong_numbers(path, wrong, suffered))
            wrong = dict(suffered, **{name: suffered[name] + 1})
            self.assertIn(("suffered", name, suffered[name]), wrong_numbers(path, made, wrong))

    def test_with_the_right_one_there_is_no_fault(self):
        made, suffered = {"a": 9, "b": 1, "c": 0}, {"a": 0, "b": 2, "c": 3}
        for word, walker, right in wrong_numbers(ABC, made, suffered):
            if word == "made":
                self.assertIsNone(lists_fault(ABC, dict(made, **{walker: right}), suffered))
            else:
                self.assertIsNone(lists_fault(ABC, made, dict(suffered, **{walker: right})))
        self.assertTold(wrong_numbers(ABC, {"a": 1, "b": 1, "c": 1}, {"a": 1, "b": 1, "c": 1}), [])

    def test_wrong_ones(self):
        good = {"a": 0, "b": 0, "c": 0}
        for thing in ANYTHING + [{"a": 0, "b": 0, "c": -1}, {"a": 0, "b": 0, "c": True}]:
            self.assertRefused(BadNumbers, {"numbers": thing}, wrong_numbers, ABC, thing, thing)
            self.assertRefused(BadOthers, {"others": thing}, wrong_numbers, ABC, good, thing)


class Nets(ToldCase):
    def test_all_small_ones(self):
        for many, most in ((2, 6), (3, 4), (4, 2)):
            names = slowly.names_of(many)
            path = Path(names)
            for row in itertools.product(range(-most, most + 1), repeat=many):
                expected = []
                for index in range(many):
                    for right in range(-4 * most - 1, 4 * most + 2):
                        if right != row[index] and self.can_be(replaced(row, index, right)):
                            expected.append((names[index], right))
                told = wrong_nets(path, dict(zip(names, row)))
                self.assertTold(told, [] if self.can_be(row) else expected)
                for name, right in told:
                    self.assertEqual(right, row[names.index(name)] - sum(row))

    def can_be(self, row):
        """Nets of a stand: all together 0, and no two come to one rest."""
        rests = {(index + gain) % len(row) for index, gain in enumerate(row)}
        return sum(row) == 0 and len(rests) == len(row)

    def test_one_wrong_net_is_noticed(self):
        for names, near in slowly.small_paths():
            path = Path(names)
            for walked in near[:40]:
                nets = nets_of(path, walked.places)
                self.assertTold(wrong_nets(path, nets), [])
                for name in names:
                    for more in (-7, -1, 1, 2, FAR):
                        wrong = dict(nets, **{name: nets[name] + more})
                        told = wrong_nets(path, wrong)
                        self.assertIn((name, nets[name]), told)
                        for each, right in told:
                            self.assertIsNotNone(stand_of_nets(path, dict(wrong, **{each: right})))

    def test_twenty_far_ones(self):
        names = slowly.many_names(20)
        path = Path(names)
        nets = nets_of(path, slowly.far_stand(names, [0] + [FAR * (-1) ** index for index in range(19)]))
        nets["w7"] -= 3 * FAR
        self.assertIn(("w7", nets["w7"] + 3 * FAR), wrong_nets(path, nets))

    def test_wrong_ones(self):
        for thing in ANYTHING:
            self.assertRefused(BadNets, {"nets": thing}, wrong_nets, ABC, thing)
        self.assertRefused(BadPath, {"thing": None}, wrong_nets, None, {"a": 1})


class Tables(ToldCase):
    def test_near_tables(self):
        chance = random.Random(15)
        counts = {}
        for many, depth, most, share in ((3, 24, 8, 60), (4, 16, 4, 100)):
            names = slowly.names_of(many)
            path = Path(names)
            pairs = slowly.all_pairs(names)
            ahead = list(itertools.combinations(names, 2))
            near = list(slowly.explore(names, depth).values())
            known = {tuple(walked.nets[pair] for pair in pairs) for walked in near}
            for walked in near[:share] * 2:
                wrong = dict(walked.nets)
                for pair in chance.choices(ahead, k=chance.choice([0, 1, 1, 1, 2])):
                    wrong[pair] += chance.randint(-2, 2)
                    wrong[pair[::-1]] = -wrong[pair] + chance.choice([0, 0, 0, 0, 1, -3])
                expected = []
                if tuple(wrong[pair] for pair in pairs) not in known:
                    for one, other in ahead:
                        for right in range(-most, most + 1):
                            righted = dict(wrong)
                            righted[one, other], righted[other, one] = right, -right
                            if tuple(righted[pair] for pair in pairs) in known:
                                expected.append((one, other, right))
                told = wrong_pairs(path, wrong)
                self.assertTold(told, expected)
                for one, other in ahead:
                    rights = [right for x, y, right in told if (x, y) == (one, other)]
                    self.assertIn(len(rights), (0, 1, 2))
                    self.assertTrue(len(rights) < 2 or rights[1] == rights[0] + 1)
                    counts[len(rights)] = counts.get(len(rights), 0) + 1
        self.assertEqual(sorted(counts), [0, 1, 2])

    def test_only_the_turned_pair_was_wrong(self):
        wrong = table(ABC, STAND)
        wrong["c", "a"] = 5
        self.assertIn(("a", "c", 2), wrong_pairs(ABC, wrong))
        self.assertTold(wrong_pairs(ABC, table(ABC, STAND)), [])

    def test_two_wrong_pairs(self):
        names = slowly.many_names(5)
        path = Path(names)
        wrong = table(path, {name: index for index, name in enumerate(names)})
        wrong["w0", "w1"], wrong["w2", "w3"] = 7, 9
        self.assertTold(wrong_pairs(path, wrong), [])

    def test_twelve_far_ones(self):
        names = slowly.many_names(12)
        path = Path(names)
        stand = slowly.far_stand(names, [0] + [FAR // 40 * (-1) ** index * index for index in range(11)])
        right = table(path, stand)
        for one, other in itertools.combinations(names, 2):
            wrong = dict(right)
            wrong[one, other] += FAR
            wrong[other, one] -= FAR
            told = wrong_pairs(path, wrong)
            self.assertIn((one, other, right[one, other]), told)
            for x, y, number in told:
                righted = dict(wrong)
                righted[x, y], righted[y, x] = number, -number
                self.assertIsNotNone(stand_of_table(path, righted))

    def test_wrong_ones(self):
        for thing in ANYTHING:
            self.assertRefused(BadTable, {"table": thing}, wrong_pairs, ABC, thing)


class Example(ToldCase):
    def test_the_documents(self):
        others = {"a": 0, "b": 2, "c": 3}
        self.assertTold(wrong_numbers(ABC, {"a": 4, "b": 0, "c": 0}, others), [("made", "b", 1), ("suffered", "c", 2)])
        self.assertTold(wrong_numbers(ABC, {"a": 4, "b": 1, "c": 0}, others), [])
        self.assertTold(wrong_nets(ABC, {"a": 4, "b": -1, "c": -2}), [("b", -2), ("c", -3)])
        wrong = table(ABC, STAND)
        wrong["a", "c"], wrong["c", "a"] = 4, -4
        self.assertTold(wrong_pairs(ABC, wrong), [("a", "b", 3), ("a", "b", 4), ("a", "c", 2), ("a", "c", 3),
                                                  ("b", "c", 2), ("b", "c", 3)])


if __name__ == "__main__":
    unittest.main()

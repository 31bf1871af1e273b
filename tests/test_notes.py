"""Section 10 of the document: notes up to so many, and what the noted numbers alone tell."""

import itertools
import unittest

from ringwalkers.errors import BadMost, BadNoted, BadPart, BadPath, BadStand
from ringwalkers.notes import most_lacking, noted, noted_fault, notes, notes_of_noted
from ringwalkers.paths import Path
from ringwalkers.tables import overtook, table

from tests import slowly
from tests.anything import ANYTHING
from tests.told import ToldCase

ABC = Path(["a", "b", "c"])
FIRST = {"a": 0, "b": 1, "c": 2}
STAND = {"a": 4, "b": 0, "c": -1}
NO_MOST = [0, -1, True, False, None, "1", "", [1], (1,), {"a": 1}, 10 ** 6 * -1, len, ABC]


def all_numbers(names, top):
    """All dicts from the names to numbers up to a top."""
    return [dict(zip(names, numbers)) for numbers in itertools.product(range(top + 1), repeat=len(names))]


class Noted(ToldCase):
    def test_near_stands(self):
        for names, near in slowly.small_paths():
            path = Path(names)
            for walked in near:
                for most in (1, 2, 3, 7, 10 ** 6):
                    expected = {pair: min(max(number, 0), most) for pair, number in walked.nets.items()}
                    self.assertTold(notes(path, walked.places, most), expected)
                    self.assertTold(noted(path, walked.places, most), slowly.sums_of(names, expected))

    def test_with_most_1(self):
        for names, near in slowly.small_paths():
            path = Path(names)
            for walked in near:
                told = noted(path, walked.places, 1)
                for name in names:
                    self.assertEqual(told[name], len(overtook(path, walked.places, name)))

    def test_right_behind_at_first_one_noted_more_just_if_one_overtook(self):
        for names, near in slowly.small_paths():
            for walked in near:
                for most in (1, 2, 3):
                    told = noted(Path(names), walked.places, most)
                    for one, other in zip(names, names[1:] + names[:1]):
                        if len(names) > 2 or one == names[0]:
                            self.assertEqual(told[one] > told[other], walked.nets[one, other] > 0)

    def test_far_ones(self):
        names = slowly.many_names(20)
        stand = slowly.far_stand(names, [0] + [10 ** 17 * (-1) ** index * index + index for index in range(19)])
        path = Path(names)
        for most in (1, 10 ** 6, 10 ** 6 + 7, 10 ** 18):
            expected = {pair: min(max(number, 0), most) for pair, number in table(path, stand).items()}
            self.assertTold(notes(path, stand, most), expected)
            self.assertTold(noted(path, stand, most), slowly.sums_of(names, expected))

    def test_wrong_ones(self):
        for work in (notes, noted):
            for thing in NO_MOST:
                self.assertRefused(BadMost, {"most": thing}, work, ABC, STAND, thing)
                self.assertRefused(BadStand, {"stand": thing}, work, ABC, thing, thing)
            self.assertRefused(BadPath, {"thing": None}, work, None, None, None)


class NumbersAlone(ToldCase):
    def test_all_notes(self):
        for many, most, depth, _ in slowly.NOTED:
            names = slowly.names_of(many)
            path = Path(names)
            by_numbers = {}
            for pairs_noted in slowly.stands_by_notes(many, most, depth):
                shown = slowly.notes_of(names, pairs_noted)
                told = slowly.sums_of(names, shown)
                self.assertNotIn(slowly.key(told), by_numbers)
                by_numbers[slowly.key(told)] = shown
            for numbers in all_numbers(names, most * (many - 1) + 1):
                self.check(path, numbers, most, by_numbers.get(slowly.key(numbers)))

    def check(self, path, numbers, most, expected):
        self.assertTold(notes_of_noted(path, numbers, most), expected)
        fault = None
        for place, number in enumerate(sorted(numbers.values())):
            if fault is None and number > place * most:
                fault = (place, number)
        self.assertTold(noted_fault(path, numbers, most), fault)
        self.assertEqual(fault is None, expected is not None)

    def test_told_ones_come_back(self):
        for many, depth in ((5, 4), (6, 3), (8, 2)):
            names = slowly.names_of(many)
            path = Path(names)
            for walked in slowly.explore(names, depth).values():
                for most in (1, 2, 5):
                    numbers = noted(path, walked.places, most)
                    self.assertTold(notes_of_noted(path, numbers, most), notes(path, walked.places, most))

    def test_ten_walkers(self):
        names = slowly.many_names(10)
        path = Path(names)
        for turn in range(10):
            stand = slowly.far_stand(names, [0] + [(index * 7 + turn * 3) % 19 - 9 for index in range(9)])
            for most in (1, 4, 19, 20, 25):
                numbers = noted(path, stand, most)
                self.assertTold(notes_of_noted(path, numbers, most), notes(path, stand, most))
                self.assertTold(noted_fault(path, numbers, most), None)
        greatest = {name: 20 * ((index * 3) % 10) for index, name in enumerate(names)}
        told = notes_of_noted(path, greatest, 20)
        for one, other in slowly.all_pairs(names):
            self.assertEqual(told[one, other], 20 if greatest[one] > greatest[other] else 0)
        greatest[names[4]] += 1
        self.assertTold(notes_of_noted(path, greatest, 20), None)
        self.assertTold(noted_fault(path, greatest, 20), (2, 41))

    def test_great_numbers_have_faults(self):
        self.assertTold(noted_fault(ABC, {"a": 10 ** 40, "b": 10 ** 50, "c": 10 ** 30}, 20), (0, 10 ** 30))
        self.assertTold(noted_fault(ABC, {"a": 10 ** 40, "b": 0, "c": 10 ** 30}, 20), (1, 10 ** 30))
        self.assertTold(notes_of_noted(ABC, {"a": 10 ** 40, "b": 0, "c": 0}, 20), None)
        self.assertTold(noted_fault(ABC, {"a": 41, "b": 0, "c": 20}, 20), (2, 41))
        self.assertTold(noted_fault(ABC, {"a": 40, "b": 0, "c": 20}, 20), None)

    def test_wrong_ones(self):
        for work in (notes_of_noted, noted_fault):
            for thing in [{"a": 0, "b": -1, "c": 0}, {"a": 0, "b": True, "c": 0}, {"a": 0, "b": 0},
                          {"a": 0, "b": 0, "d": 0}, [0, 0, 0], {"a": 0, "b": 0, "c": 0, "d": 0}] + ANYTHING:
                self.assertRefused(BadNoted, {"noted": thing}, work, ABC, thing, 0)
            for thing in NO_MOST:
                self.assertRefused(BadMost, {"most": thing}, work, ABC, {"a": 9, "b": 9, "c": 9}, thing)
            self.assertRefused(BadPath, {"thing": 1}, work, 1, None, None)


class OneLacking(ToldCase):
    def test_all_parts(self):
        for many, most in ((2, 1), (2, 3), (3, 1), (3, 2), (4, 1), (4, 2), (5, 1)):
            names = slowly.names_of(many)
            path = Path(names)
            for lacking in names[::max(1, many // 2)]:
                rest = [name for name in names if name != lacking]
                for part in all_numbers(rest, most * (many - 1) + 1):
                    can = [number for number in range(most * (many - 1) + 3)
                           if noted_fault(path, dict(part, **{lacking: number}), most) is None]
                    self.assertEqual(can, list(range(len(can))))
                    self.assertTold(most_lacking(path, part, most), can[-1] if can else None)

    def test_great_ones(self):
        names = slowly.many_names(20)
        path = Path(names)
        most = 10 ** 6
        part = {name: most * index for index, name in enumerate(names[1:])}
        self.assertTold(most_lacking(path, part, most), 19 * most)
        part[names[9]] += 1
        self.assertTold(most_lacking(path, part, most), 8 * most)
        part[names[9]] += most - 1
        self.assertTold(most_lacking(path, part, most), 8 * most)
        part[names[9]] += 1
        self.assertTold(most_lacking(path, part, most), 8 * most)
        part[names[10]] += 1
        self.assertTold(most_lacking(path, part, most), None)
        self.assertTold(most_lacking(path, {name: 10 ** 40 for name in names[1:]}, most), None)

    def test_wrong_ones(self):
        for thing in [{"a": 0}, {"a": 0, "b": 0, "c": 0}, {"a": 0, "d": 0}, {"a": 0, "b": -1}, {"a": True, "b": 0},
                      {"a": 0, None: 0}, {"a": 0, ("b",): 0}, {}, ["a", "b"], [("a", 0), ("b", 0)], None]:
            self.assertRefused(BadPart, {"part": thing}, most_lacking, ABC, thing, 0)
        for thing in NO_MOST:
            self.assertRefused(BadMost, {"most": thing}, most_lacking, ABC, {"a": 9, "c": 9}, thing)


class Example(ToldCase):
    def test_the_documents(self):
        one = {("a", "b"): 1, ("a", "c"): 1, ("b", "a"): 0, ("b", "c"): 1, ("c", "a"): 0, ("c", "b"): 0}
        two = {("a", "b"): 2, ("a", "c"): 2, ("b", "a"): 0, ("b", "c"): 1, ("c", "a"): 0, ("c", "b"): 0}
        self.assertTold(notes(ABC, STAND, 1), one)
        self.assertTold(noted(ABC, STAND, 1), {"a": 2, "b": 1, "c": 0})
        self.assertTold(notes(ABC, STAND, 2), two)
        self.assertTold(noted(ABC, STAND, 2), {"a": 4, "b": 1, "c": 0})
        self.assertTold(notes_of_noted(ABC, {"a": 4, "b": 1, "c": 0}, 2), two)
        self.assertTold(noted_fault(ABC, {"a": 3, "b": 0, "c": 0}, 1), (2, 3))
        self.assertTold(most_lacking(ABC, {"b": 1, "c": 0}, 1), 2)
        self.assertTold(most_lacking(ABC, {"b": 2, "c": 1}, 1), 0)
        self.assertTold(most_lacking(ABC, {"b": 2, "c": 2}, 1), None)


if __name__ == "__main__":
    unittest.main()

"""Section 5 of the document: numbers made and suffered, laps off, both lists."""

import itertools
import unittest

from ringwalkers.errors import BadNumbers, BadOthers
from ringwalkers.madenumbers import (laps_off, lists_fault, numbers_made, numbers_suffered, stand_of_made,
                                     stand_of_suffered)
from ringwalkers.netnumbers import nets_of
from ringwalkers.paths import Path, is_stand
from ringwalkers.tables import in_all

from tests import slowly
from tests.told import ToldCase

ABC = Path(["a", "b", "c"])
STAND = {"a": 4, "b": 0, "c": -1}

WRONG = [{"a": 0, "b": 1}, {"a": 0, "b": 1, "c": 2, "d": 3}, {"a": 0, "b": 1, "d": 2}, {}, [0, 1, 2], None, "abc",
         {"a": 0, "b": 1, "c": -1}, {"a": -1, "b": 0, "c": 0}, {"a": 0, "b": True, "c": 2},
         {"a": False, "b": 1, "c": 2}, {"a": 0, "b": 1, "c": "2"}, {"a": 0, "b": None, "c": 2},
         {"a": 0, "b": 1, "c": [2]}]


def by_numbers(names, depth, count):
    """The places of all near stands, by how often each one made, or suffered, as count tells."""
    found = {}
    for walked in slowly.explore(names, depth).values():
        numbers = tuple(count(walked, name) for name in names)
        if numbers in found:
            raise AssertionError("two stands with the same numbers")
        found[numbers] = walked.places
    return found


class MadeAndSuffered(ToldCase):
    def test_the_overtakings_on_the_way(self):
        for names, stands in slowly.small_paths():
            path = Path(names)
            for walked in stands:
                made = {name: slowly.made(walked, name) for name in names}
                suffered = {name: slowly.suffered(walked, name) for name in names}
                self.assertTold(numbers_made(path, walked.places), made)
                self.assertTold(numbers_suffered(path, walked.places), suffered)
                self.assertEqual({name: len([one for one, _ in walked.run if one == name]) for name in names}, made)
                self.assertEqual(sum(made.values()), in_all(path, walked.places))
                self.assertEqual(sum(suffered.values()), in_all(path, walked.places))
                for index, name in enumerate(names):
                    self.assertEqual(made[name] - suffered[name], walked.places[name] - index)

    def test_told_in_the_order_of_the_path(self):
        self.assertTold(numbers_made(ABC, {"c": -1, "a": 4, "b": 0}), {"a": 4, "b": 1, "c": 0})
        self.assertTold(numbers_suffered(ABC, {"c": -1, "a": 4, "b": 0}), {"a": 0, "b": 2, "c": 3})


class NumbersAlone(ToldCase):
    def test_all_small_numbers(self):
        for many, most, depth in ((2, 6, 12), (3, 3, 9), (4, 2, 8)):
            names = slowly.names_of(many)
            path = Path(names)
            made = by_numbers(names, depth, slowly.made)
            suffered = by_numbers(names, depth, slowly.suffered)
            for values in itertools.product(range(most + 1), repeat=many):
                numbers = dict(zip(names, values))
                self.assertEqual(values in made, 0 in values)
                self.assertEqual(values in suffered, 0 in values)
                self.assertTold(stand_of_made(path, numbers), made.get(values))
                self.assertTold(stand_of_suffered(path, numbers), suffered.get(values))

    def test_back_from_near_stands(self):
        for names, stands in slowly.small_paths():
            path = Path(names)
            for walked in stands:
                self.assertTold(stand_of_made(path, numbers_made(path, walked.places)), walked.places)
                self.assertTold(stand_of_suffered(path, numbers_suffered(path, walked.places)), walked.places)

    def test_great_numbers(self):
        for many in (2, 3, 5, 20, 23):
            names = slowly.many_names(many)
            path = Path(names)
            for turn in range(40):
                values = [pow(7, 3 + turn * 5 + index * (turn + 3), 10 ** 18 + 9) for index in range(many)]
                for index in range(turn % 4):
                    values[(index * 5 + turn) % many] = index
                values[turn % many] = 0
                numbers = dict(zip(names, values))
                stand = stand_of_made(path, numbers)
                self.assertIs(is_stand(path, stand), True)
                self.assertTold(numbers_made(path, stand), numbers)
                self.assertTold(stand_of_made(path, dict(reversed(list(numbers.items())))), stand)
                stand = stand_of_suffered(path, numbers)
                self.assertIs(is_stand(path, stand), True)
                self.assertTold(numbers_suffered(path, stand), numbers)
                numbers[names[turn % many]] = 1
                for index in range(many):
                    numbers[names[index]] = max(1, numbers[names[index]])
                self.assertTold(stand_of_made(path, numbers), None)
                self.assertTold(stand_of_suffered(path, numbers), None)

    def test_far_stands(self):
        names = slowly.many_names(20)
        path = Path(names)
        stand = slowly.far_stand(names, [(-1) ** index * (10 ** 17 - 3 ** index) for index in range(20)])
        self.assertTold(stand_of_made(path, numbers_made(path, stand)), stand)
        self.assertTold(stand_of_suffered(path, numbers_suffered(path, stand)), stand)

    def test_no_numbers(self):
        for wrong in WRONG:
            for work in (stand_of_made, stand_of_suffered, laps_off):
                self.assertRefused(BadNumbers, {"numbers": wrong}, work, ABC, wrong)


class LapsOff(ToldCase):
    def test_all_small_numbers(self):
        for many, most in ((2, 12), (3, 7), (4, 4)):
            names = slowly.names_of(many)
            path = Path(names)
            for values in itertools.product(range(most + 1), repeat=many):
                numbers = dict(zip(names, values))
                if 0 not in values:
                    self.assertRefused(BadNumbers, {"numbers": numbers}, laps_off, path, numbers)
                    continue
                zeros = values.count(0)
                laps = 0
                while zeros < many and all(value >= (laps + 1) * zeros for value in values if value > 0):
                    laps += 1
                rest = {name: value and value - laps * zeros for name, value in numbers.items()}
                self.assertTold(laps_off(path, numbers), (laps, rest))
                self.check_places(path, numbers, zeros, laps, rest)

    def check_places(self, path, numbers, zeros, laps, rest):
        stand = stand_of_made(path, numbers)
        left = stand_of_made(path, rest)
        for name, value in numbers.items():
            gone = laps * zeros if value > 0 else -laps * (len(numbers) - zeros)
            self.assertEqual(stand[name] - left[name], gone)

    def test_great_numbers(self):
        names = slowly.many_names(20)
        path = Path(names)
        numbers = {name: 10 ** 18 + index ** 9 if index % 3 else 0 for index, name in enumerate(names)}
        laps, rest = laps_off(path, numbers)
        self.assertTold(laps, (10 ** 18 + 1) // 7)
        self.assertTold(rest, {name: value and value - laps * 7 for name, value in numbers.items()})
        self.check_places(path, numbers, 7, laps, rest)
        self.assertTold(laps_off(path, {name: 0 for name in names}), (0, {name: 0 for name in names}))


class BothLists(ToldCase):
    def test_all_small_lists(self):
        names = ["a", "b", "c"]
        made = by_numbers(names, 6, slowly.made)
        suffered = {slowly.key(walked.places): [slowly.suffered(walked, name) for name in names]
                    for walked in slowly.explore(names, 6).values()}
        for values in itertools.product(range(3), repeat=3):
            numbers = dict(zip(names, values))
            for others in itertools.product(range(4), repeat=3):
                if 0 not in values:
                    expected = ("made",)
                else:
                    right = suffered[slowly.key(made[values])]
                    wrong = [name for name, given, there in zip(names, others, right) if given != there]
                    expected = ("suffered", wrong[0]) if wrong else None
                self.assertTold(lists_fault(ABC, numbers, dict(zip(names, others))), expected)

    def test_great_numbers(self):
        names = slowly.many_names(20)
        path = Path(names)
        numbers = {name: 10 ** 18 + index ** 9 if index % 3 else 0 for index, name in enumerate(names)}
        others = numbers_suffered(path, stand_of_made(path, numbers))
        self.assertTold(lists_fault(path, numbers, others), None)
        for name in names:
            others[name] += 1
            self.assertTold(lists_fault(path, numbers, others), ("suffered", name))
            others[name] -= 1

    def test_wrong_inputs(self):
        right = {"a": 0, "b": 0, "c": 0}
        for wrong in WRONG:
            self.assertRefused(BadNumbers, {"numbers": wrong}, lists_fault, ABC, wrong, right)
            self.assertRefused(BadOthers, {"others": wrong}, lists_fault, ABC, right, wrong)
            self.assertRefused(BadNumbers, {"numbers": wrong}, lists_fault, ABC, wrong, wrong)
            self.assertRefused(BadOthers, {"others": wrong}, lists_fault, ABC, {"a": 1, "b": 1, "c": 1}, wrong)


class Example(ToldCase):
    def test_the_documents(self):
        made = {"a": 4, "b": 1, "c": 0}
        self.assertTold(numbers_made(ABC, STAND), made)
        self.assertTold(numbers_suffered(ABC, STAND), {"a": 0, "b": 2, "c": 3})
        self.assertTold(nets_of(ABC, STAND), {"a": 4, "b": -1, "c": -3})
        self.assertTold(stand_of_made(ABC, {"a": 1, "b": 1, "c": 1}), None)
        self.assertTold(laps_off(ABC, made), (1, {"a": 3, "b": 0, "c": 0}))
        self.assertTold(stand_of_made(ABC, {"a": 3, "b": 0, "c": 0}), {"a": 3, "b": -1, "c": 1})
        self.assertTold(lists_fault(ABC, made, {"a": 0, "b": 3, "c": 2}), ("suffered", "b"))


if __name__ == "__main__":
    unittest.main()

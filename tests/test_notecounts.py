"""Section 10 of the document: notes counted, and noted numbers put in order."""

import itertools
import unittest

from ringwalkers.errors import BadIndex, BadMost, BadNoted, BadNumber, BadPath
from ringwalkers.notecounts import count_noted, count_notes, noted_at, noted_index
from ringwalkers.notes import noted_fault, notes_of_noted
from ringwalkers.paths import Path

from tests import slowly
from tests.anything import ANYTHING
from tests.told import ToldCase

ABC = Path(["a", "b", "c"])
SMALL = [(2, 1), (2, 2), (2, 5), (3, 1), (3, 2), (3, 3), (4, 1), (4, 2), (5, 1)]


def right_numbers(many, most):
    """All lists of noted numbers without a fault, as lists compare."""
    lists = itertools.product(range(most * (many - 1) + 1), repeat=many)
    return [list(each) for each in lists
            if all(number <= place * most for place, number in enumerate(sorted(each)))]


def next_list(numbers, most):
    """The next list without a fault, as lists compare, by trying; None behind the last one."""
    for place in range(len(numbers) - 1, -1, -1):
        further = numbers[:place] + [numbers[place] + 1] + [0] * (len(numbers) - place - 1)
        if all(number <= k * most for k, number in enumerate(sorted(further))):
            return further
    return None


class Counted(ToldCase):
    def test_all_lists(self):
        for many, most in SMALL:
            path = Path(slowly.names_of(many))
            lists = right_numbers(many, most)
            self.assertTold(count_notes(path, most), len(lists))
            sums = [sum(each) for each in lists]
            for number in range(max(sums) + 4):
                self.assertTold(count_noted(path, most, number), sums.count(number))

    def test_all_notes(self):
        for many, most, depth, _ in slowly.NOTED:
            found = slowly.stands_by_notes(many, most, depth)
            self.assertTold(count_notes(Path(slowly.names_of(many)), most), len(found))

    def test_great_ones(self):
        for many, most in ((12, 30), (12, 1), (13, 31), (7, 10 ** 6)):
            path = Path(slowly.many_names(many))
            greatest = most * many * (many - 1) // 2
            expected = 1
            for _ in range(many - 1):
                expected *= most * many + 1
            self.assertTold(count_notes(path, most), expected)
            orders = 1
            for number in range(1, many + 1):
                orders *= number
            self.assertTold(count_noted(path, most, greatest), orders)
            self.assertTold(count_noted(path, most, greatest + 1), 0)
            self.assertTold(count_noted(path, most, 10 ** 30), 0)
            self.assertTold(count_noted(path, most, 0), 1)
            self.assertTold(count_noted(path, most, 1), many)
            if greatest < 3000:
                self.assertEqual(sum(count_noted(path, most, number) for number in range(greatest + 1)), expected)

    def test_twenty_walkers_and_a_great_most(self):
        expected = 1
        for _ in range(19):
            expected *= 20 * 10 ** 6 + 1
        self.assertTold(count_notes(Path(slowly.many_names(20)), 10 ** 6), expected)

    def test_wrong_ones(self):
        for thing in (0, -1, True, None, "1", [1], {"a": 1}, len):
            self.assertRefused(BadMost, {"most": thing}, count_notes, ABC, thing)
            self.assertRefused(BadMost, {"most": thing}, count_noted, ABC, thing, -1)
            if thing != 0:
                self.assertRefused(BadNumber, {"number": thing}, count_noted, ABC, 1, thing)
        self.assertRefused(BadPath, {"thing": 1}, count_noted, 1, 0, -1)
        self.assertRefused(BadPath, {"thing": 1}, count_notes, 1, 0)


class Ordered(ToldCase):
    def test_all_lists(self):
        for many, most in SMALL:
            names = slowly.names_of(many)
            path = Path(names)
            for index, numbers in enumerate(right_numbers(many, most)):
                self.assertTold(noted_at(path, most, index), dict(zip(names, numbers)))
                self.assertTold(noted_index(path, dict(zip(names, numbers)), most), index)

    def test_faults(self):
        for many, most in SMALL:
            names = slowly.names_of(many)
            for numbers in itertools.product(range(most * many), repeat=many):
                numbers = dict(zip(names, numbers))
                if noted_fault(Path(names), numbers, most) is not None:
                    self.assertTold(noted_index(Path(names), numbers, most), None)

    def test_lesser_ones_have_no_fault_and_greatest_are_in_any_order(self):
        for many, most in SMALL:
            names = slowly.names_of(many)
            path = Path(names)
            right = {tuple(numbers) for numbers in right_numbers(many, most)}
            for numbers in right:
                for place in range(many):
                    if numbers[place] > 0:
                        self.assertIn(numbers[:place] + (numbers[place] - 1,) + numbers[place + 1:], right)
            greatest = [numbers for numbers in right
                        if not any(numbers[:place] + (numbers[place] + 1,) + numbers[place + 1:] in right
                                   for place in range(many))]
            orders = set(itertools.permutations([place * most for place in range(many)]))
            self.assertEqual(set(greatest), orders)
            for numbers in orders:
                told = notes_of_noted(path, dict(zip(names, numbers)), most)
                for one, other in slowly.all_pairs(names):
                    expected = most if numbers[names.index(one)] > numbers[names.index(other)] else 0
                    self.assertEqual(told[one, other], expected)

    def test_great_ones(self):
        for many, most in ((12, 30), (12, 7), (13, 32), (2, 10 ** 6), (5, 10 ** 9)):
            names = slowly.many_names(many)
            path = Path(names)
            lists = count_notes(path, most)
            for index in (0, 1, lists // 7, lists // 2, lists * 5 // 6, lists - 2):
                numbers = noted_at(path, most, index)
                self.assertTold(noted_fault(path, numbers, most), None)
                self.assertTold(noted_index(path, numbers, most), index)
                further = next_list(list(numbers.values()), most)
                self.assertTold(noted_at(path, most, index + 1), dict(zip(names, further)))
            last = {name: most * (many - 1 - place) for place, name in enumerate(names)}
            self.assertTold(noted_at(path, most, lists - 1), last)
            self.assertTold(noted_index(path, last, most), lists - 1)
            self.assertTold(noted_index(path, {name: 10 ** 40 for name in names}, most), None)
            self.assertRefused(BadIndex, {"index": lists}, noted_at, path, most, lists)

    def test_no_index(self):
        for thing in [16, 17, 10 ** 40, -1, True, None, "1", [1]]:
            self.assertRefused(BadIndex, {"index": thing}, noted_at, ABC, 1, thing)
            self.assertRefused(BadMost, {"most": 0}, noted_at, ABC, 0, thing)
        self.assertRefused(BadPath, {"thing": 1}, noted_at, 1, 0, -1)

    def test_wrong_noted(self):
        for thing in [{"a": 0, "b": -1, "c": 0}, {"a": 0, "b": False, "c": 0}, {"a": 0, "b": 0}] + ANYTHING:
            self.assertRefused(BadNoted, {"noted": thing}, noted_index, ABC, thing, 0)
        for thing in (0, -1, True, None, "1", [1]):
            self.assertRefused(BadMost, {"most": thing}, noted_index, ABC, {"a": 9, "b": 9, "c": 9}, thing)


class Example(ToldCase):
    def test_the_documents(self):
        self.assertTold(count_notes(ABC, 1), 16)
        self.assertTold(count_notes(ABC, 2), 49)
        self.assertTold(count_noted(ABC, 1, 3), 6)
        self.assertTold(noted_at(ABC, 1, 1), {"a": 0, "b": 0, "c": 1})


if __name__ == "__main__":
    unittest.main()

"""Section 10 of the document: the rule of the more left."""

import random
import unittest

from ringwalkers.capped import least_stand, run_of_noted
from ringwalkers.errors import BadMost, BadNoted, BadPath
from ringwalkers.notes import noted, notes_of_noted
from ringwalkers.paths import Path
from ringwalkers.runs import is_one_way, run_end
from ringwalkers.tables import in_all, table

from tests import slowly
from tests.anything import ANYTHING
from tests.told import ToldCase

ABC = Path(["a", "b", "c"])
FIRST = {"a": 0, "b": 1, "c": 2}


class State:
    """Who stands where, with how much left, in the tests' own way of going by the rule."""

    def __init__(self, names, numbers, most):
        self.places = {name: index for index, name in enumerate(names)}
        self.left = dict(numbers)
        self.nets = {pair: 0 for pair in slowly.all_pairs(names)}
        self.most = most

    def may(self):
        return [(one, other) for one, other in slowly.moves(self.places) if self.left[one] > self.left[other]]

    def go(self, one, other):
        self.places = slowly.moved(self.places, one, other)
        self.nets[one, other] += 1
        self.nets[other, one] -= 1
        if self.nets[one, other] <= self.most:
            self.left[one] -= 1


def ends(names, numbers, most):
    """All stands, by key, in which going by the rule, in whatever order, ends."""
    found = {}
    seen = {}
    queue = [State(names, numbers, most)]
    while queue:
        state = queue.pop()
        if not state.may():
            found[slowly.key(state.places)] = state
        for one, other in state.may():
            behind = State(names, state.left, most)
            behind.places, behind.nets = state.places, dict(state.nets)
            behind.go(one, other)
            if slowly.key(behind.places) not in seen:
                seen[slowly.key(behind.places)] = True
                queue.append(behind)
    return found


class Least(ToldCase):
    def test_all_notes(self):
        for many, most, depth, _ in slowly.NOTED:
            names = slowly.names_of(many)
            path = Path(names)
            for pairs_noted, shown in slowly.stands_by_notes(many, most, depth).items():
                numbers = slowly.sums_of(names, slowly.notes_of(names, pairs_noted))
                told = least_stand(path, numbers, most)
                self.assertTold(told, shown[0].places)
                for walked in shown:
                    self.assertTrue(all(min(walked.nets[pair], 0) <= number <= max(walked.nets[pair], 0)
                                        for pair, number in shown[0].nets.items()))
                self.check_run(names, numbers, most, told)

    def check_run(self, names, numbers, most, end):
        """The run is told by the rule, and ends there, with nothing left."""
        path = Path(names)
        run = run_of_noted(path, numbers, most)
        state = State(names, numbers, most)
        for one, other in run:
            self.assertIn((one, other), state.may())
            self.assertGreaterEqual(state.nets[one, other], 0)
            state.go(one, other)
        self.assertEqual(set(state.left.values()), {0})
        self.assertTold(state.places, end)
        first = {name: index for index, name in enumerate(names)}
        self.assertTold(run_end(path, first, run), end)
        self.assertTold(is_one_way(path, run), True)
        self.assertEqual(len(run), in_all(path, end))

    def test_in_whatever_order(self):
        for many, most, depth, _ in slowly.NOTED:
            names = slowly.names_of(many)
            for pairs_noted in list(slowly.stands_by_notes(many, most, depth))[::3]:
                numbers = slowly.sums_of(names, slowly.notes_of(names, pairs_noted))
                found = ends(names, numbers, most)
                self.assertEqual(list(found), [slowly.key(least_stand(Path(names), numbers, most))])
                for state in found.values():
                    self.assertEqual(set(state.left.values()), {0})

    def test_ten_walkers_in_drawn_orders(self):
        chance = random.Random(5)
        names = slowly.many_names(10)
        path = Path(names)
        for most in (1, 2, 7, 20, 23):
            for _ in range(3):
                numbers = [chance.randint(0, most * place) for place in range(10)]
                chance.shuffle(numbers)
                numbers = dict(zip(names, numbers))
                state = State(names, numbers, most)
                while state.may():
                    state.go(*chance.choice(state.may()))
                told = least_stand(path, numbers, most)
                self.assertTold(told, state.places)
                self.assertTold(noted(path, told, most), numbers)
                self.check_run(names, numbers, most, told)

    def test_greatest_numbers(self):
        names = slowly.many_names(10)
        path = Path(names)
        for numbers in ([20 * place for place in range(10)], [20 * (9 - place) for place in range(10)],
                        [180] + [20 * ((place * 4) % 9) for place in range(9)]):
            numbers = dict(zip(names, numbers))
            told = least_stand(path, numbers, 20)
            self.assertTold(noted(path, told, 20), numbers)
            nets = table(path, told)
            for one, other in slowly.all_pairs(names):
                if numbers[one] > numbers[other]:
                    self.assertGreaterEqual(nets[one, other], 20)
            self.check_run(names, numbers, 20, told)

    def test_nobody_noted(self):
        for most in (1, 20):
            self.assertTold(least_stand(ABC, {"c": 0, "b": 0, "a": 0}, most), FIRST)
            self.assertTold(run_of_noted(ABC, {"c": 0, "b": 0, "a": 0}, most), [])

    def test_faults(self):
        for numbers, most in (((1, 1, 1), 1), ((3, 0, 0), 1), ((0, 3, 3), 2), ((5, 0, 2), 2), ((10 ** 30, 0, 0), 20)):
            numbers = dict(zip("abc", numbers))
            self.assertTold(least_stand(ABC, numbers, most), None)
            self.assertTold(run_of_noted(ABC, numbers, most), None)
            self.assertTold(notes_of_noted(ABC, numbers, most), None)

    def test_wrong_ones(self):
        for work in (least_stand, run_of_noted):
            for thing in [{"a": 0, "b": -1, "c": 0}, {"a": 0, "b": False, "c": 0}, {"a": 0, "b": 0}] + ANYTHING:
                self.assertRefused(BadNoted, {"noted": thing}, work, ABC, thing, 0)
            for thing in (0, -1, True, None, "1", [1]):
                self.assertRefused(BadMost, {"most": thing}, work, ABC, {"a": 9, "b": 9, "c": 9}, thing)
            self.assertRefused(BadPath, {"thing": None}, work, None, None, None)


class Example(ToldCase):
    def test_the_documents(self):
        numbers = {"a": 2, "b": 1, "c": 0}
        self.assertTold(least_stand(ABC, numbers, 1), {"a": 2, "b": 1, "c": 0})
        run = run_of_noted(ABC, numbers, 1)
        self.assertTrue(run in ([("a", "b"), ("a", "c"), ("b", "c")], [("b", "c"), ("a", "c"), ("a", "b")]))


if __name__ == "__main__":
    unittest.main()

"""Section 5 of the document: the rule of the more left, runs with numbers, one overtaking by numbers."""

import itertools
import unittest

from ringwalkers.errors import BadLeft, BadNumbers, NotBehind, NoWalker
from ringwalkers.madenumbers import numbers_made, stand_of_made
from ringwalkers.moreleft import is_made_run, made_run, numbers_behind, with_more
from ringwalkers.paths import Path, first_stand
from ringwalkers.runs import run_end

from tests import slowly
from tests.anything import ANYTHING
from tests.told import ToldCase

ABC = Path(["a", "b", "c"])
FIRST = {"a": 0, "b": 1, "c": 2}

WRONG = [{"a": 0, "b": 1}, {"a": 0, "b": 1, "c": 2, "d": 3}, {"a": 0, "b": 1, "c": -1}, {"a": 0, "b": True, "c": 2},
         {"a": 0, "b": 1, "c": None}, [0, 1, 2], None, {}]


def small_numbers():
    for many, most in ((2, 5), (3, 3), (4, 2)):
        names = slowly.names_of(many)
        for values in itertools.product(range(most + 1), repeat=many):
            yield names, dict(zip(names, values))


class MoreLeft(ToldCase):
    def test_near_stands(self):
        for names, stands in slowly.small_paths():
            path = Path(names)
            for turn, walked in enumerate(stands):
                ahead = dict(slowly.moves(walked.places))
                great = [10 ** 18, 10 ** 18, 10 ** 18 - 1, 0, 3]
                for values in ([1] * len(names), range(len(names)), [turn % 3, 2, 0, 2, 1], great):
                    left = dict(zip(names, values))
                    expected = [name for name in names if left[name] > left[ahead[name]]]
                    self.assertTold(with_more(path, walked.places, left), expected)

    def test_whoever_goes_it_ends_at_one_stand(self):
        for names, numbers in small_numbers():
            if 0 in numbers.values():
                self.go_all_ways(names, numbers)

    def go_all_ways(self, names, numbers):
        path = Path(names)
        end = stand_of_made(path, numbers)
        states = [(first_stand(path), dict(numbers), {})]
        met = set()
        while states:
            places, left, done = states.pop()
            going = with_more(path, places, left)
            if not going:
                self.assertEqual(set(left.values()), {0})
                self.assertEqual(places, end)
            for one in going:
                other = dict(slowly.moves(places))[one]
                self.assertNotIn((other, one), done)
                behind = slowly.moved(places, one, other)
                if slowly.key(behind) not in met:
                    met.add(slowly.key(behind))
                    states.append((behind, {**left, one: left[one] - 1}, {**done, (one, other): True}))

    def test_wrong_inputs(self):
        for wrong in WRONG:
            self.assertRefused(BadLeft, {"left": wrong}, with_more, ABC, FIRST, wrong)


class MadeRuns(ToldCase):
    def test_the_first_one_goes(self):
        for names, numbers in small_numbers():
            path = Path(names)
            if 0 not in numbers.values():
                self.assertTold(made_run(path, numbers), None)
                continue
            places = first_stand(path)
            left = dict(numbers)
            run = []
            while any(left.values()):
                ahead = dict(slowly.moves(places))
                one = [name for name in names if left[name] > left[ahead[name]]][0]
                run.append((one, ahead[one]))
                places = slowly.moved(places, one, ahead[one])
                left[one] -= 1
            self.assertTold(made_run(path, numbers), run)
            self.assertTold(run_end(path, first_stand(path), run), stand_of_made(path, numbers))
            self.assertTold(is_made_run(path, numbers, run), True)
            self.assertTold(is_made_run(path, numbers, tuple(list(pair) for pair in run)), True)

    def test_four_hundred_of_twenty(self):
        names = slowly.many_names(20)
        path = Path(names)
        numbers = {name: 0 if index == 6 else 11 + index % 21 for index, name in enumerate(names)}
        run = made_run(path, numbers)
        self.assertEqual(len(run), sum(numbers.values()))
        self.assertEqual({name: [one for one, _ in run].count(name) for name in names}, numbers)
        self.assertTold(is_made_run(path, numbers, run), True)
        self.assertTold(run_end(path, first_stand(path), run), stand_of_made(path, numbers))
        self.assertTold(made_run(path, {name: 0 for name in names}), [])
        self.assertTold(made_run(path, {name: 1 for name in names}), None)

    def test_one_who_goes_round(self):
        numbers = {"a": 0, "b": 400, "c": 0}
        self.assertTold(made_run(ABC, numbers), [("b", "c"), ("b", "a")] * 200)

    def test_which_runs_are_such(self):
        for names, depth in ((["a", "b"], 5), (["a", "b", "c"], 5), (["a", "b", "c", "d"], 3)):
            path = Path(names)
            level = [([], first_stand(path))]
            for _ in range(depth):
                level = [(run + [pair], slowly.moved(places, *pair))
                         for run, places in level for pair in slowly.moves(places)]
                for run, places in level:
                    count = {name: [one for one, _ in run].count(name) for name in names}
                    one_way = not any((other, one) in run for one, other in run)
                    self.assertTold(is_made_run(path, count, run), one_way)
                    if one_way:
                        self.assertTold(stand_of_made(path, count), places)

    def test_which_are_none(self):
        numbers = {"a": 4, "b": 1, "c": 0}
        run = [("a", "b"), ("a", "c"), ("a", "b"), ("a", "c"), ("b", "c")]
        self.assertTold(is_made_run(ABC, numbers, run), True)
        self.assertTold(is_made_run(ABC, numbers, run[:4]), False)
        self.assertTold(is_made_run(ABC, {"a": 3, "b": 1, "c": 0}, run), False)
        self.assertTold(is_made_run(ABC, {"a": 4, "b": 1, "c": 1}, run), False)
        self.assertTold(is_made_run(ABC, numbers, [("a", "b"), ("a", "c"), ("b", "c"), ("a", "c"), ("a", "b")]), True)
        self.assertTold(is_made_run(ABC, numbers, run[::-1]), True)
        self.assertTold(is_made_run(ABC, numbers, run[1:] + run[:1]), False)
        self.assertTold(is_made_run(ABC, numbers, run + [("a", "d")]), False)
        self.assertTold(is_made_run(ABC, {"a": 1, "b": 1, "c": 1}, []), False)
        self.assertTold(is_made_run(ABC, {"a": 0, "b": 0, "c": 0}, []), True)
        self.assertTold(is_made_run(ABC, {"c": 0, "b": 0, "a": 0}, ()), True)
        self.assertTold(is_made_run(ABC, {"c": 0, "b": 1, "a": 4}, run), True)
        for thing in ANYTHING:
            if thing not in ([], (), [["a", "b"]]):
                self.assertTold(is_made_run(ABC, {"a": 0, "b": 0, "c": 0}, thing), False)
                self.assertTold(is_made_run(ABC, {"a": 1, "b": 0, "c": 0}, [("a", "b"), thing]), False)
                self.assertTold(is_made_run(ABC, {"a": 0, "b": 0, "c": 0}, [thing]), False)

    def test_wrong_inputs(self):
        for wrong in WRONG:
            self.assertRefused(BadNumbers, {"numbers": wrong}, made_run, ABC, wrong)
            self.assertRefused(BadNumbers, {"numbers": wrong}, is_made_run, ABC, wrong, [])
            self.assertRefused(BadNumbers, {"numbers": wrong}, numbers_behind, ABC, wrong, "a", "b")


class OneOvertaking(ToldCase):
    def test_near_stands(self):
        for names, stands in slowly.small_paths():
            path = Path(names)
            for walked in stands:
                numbers = numbers_made(path, walked.places)
                can = slowly.moves(walked.places)
                for one, other in itertools.product(names, repeat=2):
                    if (one, other) not in can:
                        self.assertRefused(NotBehind, {"one": one, "other": other},
                                           numbers_behind, path, numbers, one, other)
                        continue
                    behind = slowly.gone(walked, one, other)
                    expected = {name: slowly.made(behind, name) for name in names}
                    self.assertTold(numbers_behind(path, numbers, one, other), expected)
                    if walked.nets[one, other] < 0:
                        self.assertEqual(expected, {**numbers, other: numbers[other] - 1})
                    else:
                        self.assertEqual(expected, {**numbers, one: numbers[one] + 1})

    def test_great_numbers(self):
        names = slowly.many_names(20)
        path = Path(names)
        numbers = {name: 10 ** 18 + index ** 9 if index % 3 else 0 for index, name in enumerate(names)}
        stand = stand_of_made(path, numbers)
        for one, other in slowly.moves(stand):
            told = numbers_behind(path, numbers, one, other)
            self.assertTold(told, numbers_made(path, slowly.moved(stand, one, other)))

    def test_wrong_inputs(self):
        none = {"a": 1, "b": 2, "c": 3}
        self.assertRefused(BadNumbers, {"numbers": none}, numbers_behind, ABC, none, "a", "b")
        self.assertRefused(BadNumbers, {"numbers": none}, numbers_behind, ABC, none, "d", None)
        numbers = {"a": 0, "b": 0, "c": 0}
        self.assertRefused(NoWalker, {"walker": "d"}, numbers_behind, ABC, numbers, "d", "e")
        self.assertRefused(NoWalker, {"walker": "e"}, numbers_behind, ABC, numbers, "a", "e")
        self.assertRefused(NotBehind, {"one": "b", "other": "a"}, numbers_behind, ABC, numbers, "b", "a")
        self.assertRefused(NotBehind, {"one": "b", "other": "b"}, numbers_behind, ABC, numbers, "b", "b")

    def test_numbers_are_not_changed(self):
        numbers = {"a": 0, "b": 0, "c": 0}
        self.assertTold(numbers_behind(ABC, numbers, "c", "a"), {"a": 0, "b": 0, "c": 1})
        self.assertTold(numbers_behind(ABC, {"c": 0, "b": 0, "a": 0}, "c", "a"), {"a": 0, "b": 0, "c": 1})
        self.assertEqual(numbers, {"a": 0, "b": 0, "c": 0})


class Example(ToldCase):
    def test_the_documents(self):
        numbers = {"a": 4, "b": 1, "c": 0}
        self.assertTold(with_more(ABC, FIRST, numbers), ["a", "b"])
        self.assertTold(made_run(ABC, numbers), [("a", "b"), ("a", "c"), ("a", "b"), ("a", "c"), ("b", "c")])
        self.assertTold(made_run(ABC, {"a": 1, "b": 1, "c": 1}), None)
        self.assertTold(numbers_behind(ABC, numbers, "c", "b"), {"a": 4, "b": 0, "c": 0})


if __name__ == "__main__":
    unittest.main()

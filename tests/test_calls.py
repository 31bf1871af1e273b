"""What holds of every function: parameters, kinds, new told things, arguments left alone, and what is refused."""

import copy
import inspect
import itertools
import unittest

from ringwalkers.paths import Path

from tests.anything import ANYTHING
from tests import calls
from tests.calls import ABC, CALLS, FIRST, OTHER_STAND, STAND
from tests.told import ToldCase, is_same, shape

FAR_STAND = {"a": -6 * 10 ** 18, "b": 1 + 3 * 10 ** 18, "c": 2 + 3 * 10 ** 18}
STANDS = [FIRST, STAND, OTHER_STAND, {"a": 0, "b": 2, "c": 1}]
# Others in the place of what a call is handed, one path asked of one behind another.
IN_TURNS = {
    "stands": [calls.STANDS, calls.STANDS_OF_A_RING, [STAND], [FIRST, STAND]],
    "notes": [calls.NOTES, calls.ENDED_NOTES, calls.FREE_NOTES, calls.NEXT_NOTES],
    "noted": [{"a": 2, "b": 1, "c": 0}, {"a": 0, "b": 1, "c": 1}, {"a": 1, "b": 1, "c": 1}],
    "part": [{"a": 0, "b": 0}, {"a": 0, "c": 1}, {"b": 9, "c": 9}],
    "photo": [calls.PHOTO, calls.LATER_PHOTO, ["b", "a", "c"]],
    "later": [calls.LATER_PHOTO, calls.STAND, calls.NEXT_NOTES, ["b", "c", "a"], calls.OTHER_STAND],
    "walk": [calls.WALK, (10, calls.POSTS, {"a": 0, "b": 1, "c": 5}), (11, calls.POSTS, {"a": 3, "b": 1, "c": 1})],
    "looks": [calls.LOOKS, calls.LOOKS_OF_A_RING, [], [(1, OTHER_STAND)]],
    "spans": [calls.SPANS, calls.SPANS_OF_A_RING, calls.FEW_SPANS, {}],
    "most": [1, 2, 3],
    "nets": [calls.NETS, {"a": 1, "b": 2, "c": 3}, {"a": 4}, {"a": 0, "b": 0, "c": 0}],
    "numbers": [calls.MADE, calls.SUFFERED, {"a": 1, "b": 1, "c": 1}],
    "made": [{"b": 1, "c": 0}, {"b": 0, "c": 0}, {"b": 5, "c": 9}],
    "view": [calls.VIEW, {"b": 0, "c": 0}, {"b": -1, "c": 2}],
    "row": [["b", "c"], ["c", "b"]],
    "lot": [["a"], ["b"], ["c", "b"], ["b", "c", "a"]],
    "pairs": [[], [("c", "b")], [("a", "b"), ("a", "c")]],
    "laps": [0, 1, 2, 3],
    "total": [0, 2, 5, 13],
    "sums": [calls.SUMS, {"a": 3, "b": 4, "c": 4}, {"a": 5, "b": 3, "c": 4}],
    "other_stand": [{"x": 0, "y": 1}, {"x": 5, "y": -4}, calls.FIRST, calls.STAND],
    "pieces": [[["a", "b"], ["c"]], [["a"], ["b", "c"]], [["a"], ["b"], ["c"]]],
    "prices": [calls.PRICES, {pair: 4 - price for pair, price in calls.PRICES.items()}],
    "order": [calls.ORDER, ["a", "b", "c"], ["c", "b", "a"], ["c", "a", "b"]],
    "wishes": [calls.WISHES, calls.WISHES_OF_A_RING, [], [("c", "a", 5)]],
    "steps": [0, 1, 2, 5],
    "more": [-1, 0, 1, 9],
    "many": [0, 1, 2, 3],
    "top": [0, 1, 2],
    "text": [calls.TEXT, "", "walker a 0\nwalker b 1\n", "walker a 1\nwalker b 0\nwatch all\n"],
}
# What goes through all runs is for near stands only.
NEAR_ONLY = ["count_runs", "runs_between", "earlier_ones"]


def swapped(thing):
    """Lists as tuples, tuples as lists, also within others."""
    if isinstance(thing, list):
        return tuple(swapped(each) for each in thing)
    if isinstance(thing, tuple):
        return [swapped(each) for each in thing]
    if isinstance(thing, dict):
        return {key: swapped(value) for key, value in thing.items()}
    return thing


def backward(thing):
    """Dicts with their keys in the turned order, also within others."""
    if isinstance(thing, dict):
        return {key: backward(thing[key]) for key in reversed(list(thing))}
    if isinstance(thing, (list, tuple)):
        return type(thing)(backward(each) for each in thing)
    return thing


def copied(thing):
    """A copy, but of Paths and functions the very ones."""
    if isinstance(thing, dict):
        return {key: copied(value) for key, value in thing.items()}
    if isinstance(thing, (list, tuple)):
        return type(thing)(copied(each) for each in thing)
    return thing


def spoil(thing):
    """Empties all lists and dicts within a thing."""
    for each in list(thing.values()) if isinstance(thing, dict) else thing if isinstance(thing, (list, tuple)) else []:
        spoil(each)
    if isinstance(thing, (list, dict)):
        thing.clear()


class EveryCall(ToldCase):
    def test_names_of_parameters(self):
        for call in CALLS:
            with self.subTest(function=call.name()):
                parameters = inspect.signature(call.function).parameters
                self.assertEqual(list(parameters), list(call.arguments))
                for parameter in parameters.values():
                    self.assertIs(parameter.kind, inspect.Parameter.POSITIONAL_OR_KEYWORD)
                    self.assertIs(parameter.default, inspect.Parameter.empty)

    def test_by_place_and_by_name(self):
        for call in CALLS:
            with self.subTest(function=call.name()):
                self.assertTold(call.function(*call.arguments.values()), call.told)
                self.assertTold(call.function(**call.arguments), call.told)

    def test_lists_and_tuples_mean_the_same(self):
        for call in CALLS:
            with self.subTest(function=call.name()):
                arguments = {name: swapped(each) for name, each in call.arguments.items()}
                self.assertTold(call.function(**arguments), call.told)

    def test_order_of_dicts_means_nothing(self):
        for call in CALLS:
            with self.subTest(function=call.name()):
                arguments = {name: backward(each) for name, each in call.arguments.items()}
                self.assertTold(call.function(**arguments), call.told)

    def test_arguments_are_not_changed(self):
        for call in CALLS:
            with self.subTest(function=call.name()):
                arguments = {name: swapped(swapped(each)) for name, each in call.arguments.items()}
                call.function(**arguments)
                for name, each in arguments.items():
                    self.assertTold(each, call.arguments[name], name)

    def test_later_changes_of_arguments_have_no_effect(self):
        for call in CALLS:
            with self.subTest(function=call.name()):
                arguments = {name: copied(each) for name, each in call.arguments.items()}
                told = call.function(**arguments)
                for each in arguments.values():
                    spoil(each)
                self.assertTold(told, call.told)
                self.assertTold(call.function(**call.arguments), call.told)

    def test_told_things_are_new_ones(self):
        for call in CALLS:
            with self.subTest(function=call.name()):
                told = call.function(**call.arguments)
                spoil(told)
                self.assertTold(call.function(**call.arguments), call.told)

    def test_one_path_asked_of_stands_in_turns(self):
        for call in CALLS:
            with self.subTest(function=call.name()):
                if "stand" not in call.arguments or "path" not in call.arguments:
                    continue
                asked = []
                stands = STANDS if call.name() in NEAR_ONLY else STANDS + [FAR_STAND]
                for stand in stands:
                    arguments = dict(call.arguments, stand=stand, path=Path(["a", "b", "c"]))
                    asked.append(answer_of(call.function, arguments))
                for stand, answer in list(zip(stands, asked)) * 2:
                    again = answer_of(call.function, dict(call.arguments, stand=stand))
                    self.assertTrue(is_same(again, answer), shape([again, answer]))

    def test_one_path_asked_of_other_things_in_turns(self):
        for call in CALLS:
            for name in call.arguments:
                with self.subTest(function=call.name(), parameter=name):
                    asked = []
                    for thing in IN_TURNS.get(name, []) * 2:
                        told = answer_of(call.function, dict(call.arguments, **{name: thing}))
                        other = {each: Path(told_path.walkers()) for each, told_path in paths_of(call).items()}
                        fresh = answer_of(call.function, dict(call.arguments, **other, **{name: thing}))
                        self.assertTrue(is_same(told, fresh), shape([told, fresh]))
                        asked.append(told)
                    half = len(asked) // 2
                    self.assertTold(asked[:half], asked[half:])

    def test_a_path_of_others_in_between(self):
        for call in CALLS:
            with self.subTest(function=call.name()):
                call.function(**call.arguments)
                paths = paths_of(call)
                others = {name: Path(path.walkers()[::-1]) for name, path in paths.items()}
                answer_of(call.function, dict(call.arguments, **others))
                fresh = {name: Path(path.walkers()) for name, path in paths.items()}
                self.assertTold(call.function(**dict(call.arguments, **fresh)), call.told)


def paths_of(call):
    return {name: each for name, each in call.arguments.items() if isinstance(each, Path)}


def answer_of(work, arguments):
    """What a call tells, or the class and the things of the error that it raises."""
    try:
        return work(**arguments)
    except ValueError as error:
        return (type(error).__name__, copy.copy(vars(error)))


class EveryRefusal(ToldCase):
    def test_any_object(self):
        for call in CALLS:
            for name, wrong in call.refused.items():
                for thing in ANYTHING:
                    if not wrong.is_right(thing):
                        with self.subTest(function=call.name(), parameter=name, thing=shape(thing)[:80]):
                            self.refuse(call, name, wrong, thing)

    def refuse(self, call, name, wrong, thing):
        arguments = dict(call.arguments)
        arguments[name] = thing
        if not wrong.by_place:
            self.assertRefused(wrong.error, {wrong.field: thing}, call.function, **arguments)
        elif not isinstance(thing, wrong.kinds):
            self.assertRefused(wrong.error, {wrong.field: 0}, call.function, **arguments)
        else:
            with self.assertRaises(wrong.error) as caught:
                call.function(**arguments)
            self.assertIs(type(caught.exception), wrong.error)

    def test_the_first_parameter_goes_first(self):
        for call in CALLS:
            refused = [name for name in call.in_order() if call.refused[name].error is not None]
            for former, latter in itertools.combinations(refused, 2):
                with self.subTest(function=call.name(), former=former, latter=latter):
                    arguments = dict(call.arguments)
                    arguments[former] = None
                    arguments[latter] = some_other_object
                    wrong = call.refused[former]
                    kept = 0 if wrong.by_place else None
                    self.assertRefused(wrong.error, {wrong.field: kept}, call.function, **arguments)

    def test_any_object_is_asked_about(self):
        for call in CALLS:
            if "thing" in call.arguments:
                for thing in ANYTHING:
                    with self.subTest(function=call.name(), thing=shape(thing)[:80]):
                        self.assertIs(type(call.function(**dict(call.arguments, thing=thing))), bool)


def some_other_object():
    return None


if __name__ == "__main__":
    unittest.main()

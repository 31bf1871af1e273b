"""Section 21 of the document: runs of which a chooser tells each next overtaking."""

import itertools
import random
import unittest

from ringwalkers.callers import run_chosen, run_to_notes, run_to_numbers
from ringwalkers.capped import least_stand
from ringwalkers.errors import BadChooser, BadMany, BadMost, BadNoted, BadNumbers, BadPath, BadStand
from ringwalkers.madenumbers import stand_of_made
from ringwalkers.paths import Path
from ringwalkers.refusals import BadChoice

from tests import slowly
from tests.anything import ANYTHING
from tests.told import ToldCase, is_same

ABC = Path(["a", "b", "c"])
FIRST = {"a": 0, "b": 1, "c": 2}
STAND = {"a": 4, "b": 0, "c": -1}


class Script:
    """Chooses by indexes, then always the first one; keeps what it is handed, and spoils it."""

    def __init__(self, indexes, as_list=False):
        self.indexes = indexes
        self.as_list = as_list
        self.handed = []

    def __call__(self, stand, may_come):
        count = len(self.handed)
        self.handed.append((dict(stand), list(may_come)))
        chosen = may_come[self.indexes[count] if count < len(self.indexes) else 0]
        stand.clear()
        may_come.clear()
        return list(chosen) if self.as_list else chosen


def first_of_those(stand, may_come):
    return may_come[0]


def all_scripts(call, most):
    """Calls with each way of choosing, going through all: each time the last choice that has a next one is changed."""
    indexes = []
    for _ in range(most):
        script = Script(indexes)
        yield script, call(script)
        indexes = indexes + [0] * (len(script.handed) - len(indexes))
        while indexes and indexes[-1] + 1 == len(script.handed[len(indexes) - 1][1]):
            indexes = indexes[:-1]
        if not indexes:
            return
        indexes = indexes[:-1] + [indexes[-1] + 1]
    raise AssertionError("there are more ways of choosing")


class Chosen(ToldCase):
    def test_all_choices(self):
        for many, depth, length, ways in ((2, 3, 4, 20), (3, 2, 4, 100), (4, 1, 3, 100)):
            names = slowly.names_of(many)
            path = Path(names)
            for walked in slowly.explore(names, depth).values():
                for script, run in all_scripts(lambda chooser: run_chosen(path, walked.places, chooser, length), ways):
                    self.check(names, walked, script, run, length)

    def check(self, names, walked, script, run, length):
        here, expected = walked, []
        for handed, chosen in zip(script.handed, run):
            may_come = [pair for pair in slowly.by_path(names, slowly.moves(here.places)) if here.nets[pair] >= 0]
            self.assertNotEqual(may_come, [])
            self.assertTold(handed, (here.places, may_come))
            expected.append(chosen)
            self.assertIn(chosen, may_come)
            here = slowly.gone(here, *chosen)
        self.assertEqual(len(script.handed), length)
        self.assertTold(run, [tuple(pair) for pair in run])
        self.assertEqual(len(run), length)
        if here.nets != walked.nets:
            self.assertEqual(slowly.total(here), slowly.total(walked) + length)

    def test_many(self):
        names = slowly.many_names(20)
        path = Path(names)
        stand = slowly.far_stand(names, [0] + [(-1) ** index * 10 ** 18 for index in range(19)])
        chance = random.Random(210)
        run = run_chosen(path, stand, lambda stand, may_come: list(chance.choice(may_come)), 200)
        self.assertEqual(len(run), 200)
        self.assertTold(run, [tuple(pair) for pair in run])
        self.assertTold(run_chosen(path, stand, first_of_those, 0), [])

    def test_lists_as_answers(self):
        for as_list in (False, True):
            told = run_chosen(ABC, FIRST, Script([1, 0, 1], as_list), 3)
            self.assertTold(told, [("b", "c"), ("a", "c"), ("b", "c")])

    def test_answers_that_are_none(self):
        calls = [lambda chooser: run_chosen(ABC, FIRST, chooser, 4),
                 lambda chooser: run_to_numbers(ABC, {"a": 4, "b": 1, "c": 0}, chooser),
                 lambda chooser: run_to_notes(ABC, {"a": 4, "b": 1, "c": 0}, 2, chooser)]
        wrong = [("b", "a"), ["a", "a"], ("a",), ("a", "b", "c"), "ab", {"a": "b"}, ("a", None), [("a", "b")],
                 ("c", "b")]
        for work in calls:
            for thing in ANYTHING + wrong:
                if thing not in (["a", "b"], ("a", "b")):
                    for count in range(3):
                        asked = []

                        def chooser(stand, may_come):
                            asked.append(may_come)
                            return may_come[0] if len(asked) <= count else thing

                        if count == 0 or thing in wrong[1:-1] or not isinstance(thing, (list, tuple)):
                            self.assertRefused(BadChoice, {"thing": thing}, work, chooser)
                            self.assertEqual(len(asked), count + 1)
            self.assertRefused(BadChoice, {"thing": ("c", "b")}, work, lambda stand, may_come: ("c", "b"))

    def test_what_it_raises_comes_out(self):
        def chooser(stand, may_come):
            raise KeyError("why")

        for work, rest in ((run_chosen, (FIRST, chooser, 1)), (run_to_numbers, ({"a": 1, "b": 0, "c": 0}, chooser)),
                           (run_to_notes, ({"a": 1, "b": 0, "c": 0}, 1, chooser))):
            with self.assertRaises(KeyError):
                work(ABC, *rest)

    def test_wrong_ones(self):
        for thing in ANYTHING:
            if not callable(thing):
                self.assertRefused(BadChooser, {"thing": thing}, run_chosen, ABC, STAND, thing, None)
            if isinstance(thing, bool) or not isinstance(thing, int) or thing < 0:
                self.assertRefused(BadMany, {"many": thing}, run_chosen, ABC, STAND, first_of_those, thing)
        self.assertRefused(BadStand, {"stand": None}, run_chosen, ABC, None, None, None)
        self.assertRefused(BadPath, {"thing": None}, run_chosen, None, None, None, None)


class ToNumbers(ToldCase):
    def test_all_choices(self):
        for many, total, ways in ((2, 4, 5), (3, 4, 40), (4, 3, 60)):
            names = slowly.names_of(many)
            path = Path(names)
            for walked in slowly.explore(names, total).values():
                numbers = {name: slowly.made(walked, name) for name in names}
                for script, run in all_scripts(lambda chooser: run_to_numbers(path, numbers, chooser), ways):
                    self.check(names, numbers, walked, script, run)

    def check(self, names, numbers, walked, script, run):
        places = {name: index for index, name in enumerate(names)}
        left = dict(numbers)
        for handed, (one, other) in itertools.zip_longest(script.handed, run):
            may_come = [pair for pair in slowly.by_path(names, slowly.moves(places)) if left[pair[0]] > left[pair[1]]]
            self.assertTold(handed, (places, may_come))
            places = slowly.moved(places, one, other)
            left[one] -= 1
        self.assertEqual(places, walked.places)
        self.assertEqual(len(run), sum(numbers.values()))
        self.assertFalse({(one, other) for one, other in run} & {(other, one) for one, other in run})

    def test_great_ones(self):
        chance = random.Random(211)
        names = slowly.many_names(20)
        path = Path(names)
        numbers = {name: chance.choice([0, 3, 9, 15, 20]) for name in names}
        numbers["w4"] = 0
        for _ in range(3):
            run = run_to_numbers(path, numbers, lambda stand, may_come: chance.choice(may_come))
            places = {name: index for index, name in enumerate(names)}
            for one, other in run:
                self.assertIn((one, other), slowly.moves(places))
                places = slowly.moved(places, one, other)
            self.assertEqual(places, stand_of_made(path, numbers))

    def test_a_chooser_that_changes_the_numbers(self):
        numbers = {"a": 2, "b": 1, "c": 0}

        def chooser(stand, may_come):
            numbers.clear()
            return may_come[-1]

        self.assertTold(run_to_numbers(ABC, numbers, chooser), [("b", "c"), ("a", "c"), ("a", "b")])

    def test_wrong_ones(self):
        for thing in ANYTHING + [{"a": 1, "b": 1, "c": 1}, {"a": 0, "b": 0, "c": -1}]:
            self.assertRefused(BadNumbers, {"numbers": thing}, run_to_numbers, ABC, thing, None)
            if not callable(thing):
                self.assertRefused(BadChooser, {"thing": thing}, run_to_numbers, ABC, {"a": 0, "b": 0, "c": 0}, thing)
        self.assertTold(run_to_numbers(ABC, {"a": 0, "b": 0, "c": 0}, first_of_those), [])


class ToNotes(ToldCase):
    def test_all_choices(self):
        for many, most, depth, _ in slowly.NOTED[:6]:
            names = slowly.names_of(many)
            path = Path(names)
            for notes, shown in slowly.stands_by_notes(many, most, depth).items():
                noted = slowly.sums_of(names, slowly.notes_of(names, notes))
                if sum(noted.values()) > 7:
                    continue
                # The nearest one that shows them.
                least = shown[0].places
                for script, run in all_scripts(lambda chooser: run_to_notes(path, noted, most, chooser), 500):
                    self.check(names, noted, most, least, script, run)

    def check(self, names, noted, most, least, script, run):
        here = slowly.begin_of(names, {name: index for index, name in enumerate(names)})
        for handed, (one, other) in itertools.zip_longest(script.handed, run):
            hungry = [name for name in names if noted[name] > sum(
                min(number, most) for (each, _), number in here.nets.items() if each == name and number > 0)]
            may_come = [pair for pair in slowly.by_path(names, slowly.moves(here.places))
                        if pair[0] in hungry and pair[1] not in hungry]
            self.assertTold(handed, (here.places, may_come))
            here = slowly.gone(here, one, other)
        self.assertEqual(here.places, least)
        self.assertEqual(len(run), slowly.total(here))

    def test_great_ones(self):
        chance = random.Random(212)
        for most, many in ((4, 8), (1, 8), (9, 5), (3, 12)):
            names = slowly.many_names(many)
            path = Path(names)
            for _ in range(4):
                row = [chance.randint(0, index * most) for index in range(many)]
                noted = dict(zip(chance.sample(names, many), row))
                run = run_to_notes(path, noted, most, lambda stand, may_come: chance.choice(may_come))
                places = {name: index for index, name in enumerate(names)}
                for one, other in run:
                    self.assertIn((one, other), slowly.moves(places))
                    places = slowly.moved(places, one, other)
                self.assertEqual(places, least_stand(path, noted, most))

    def test_a_chooser_that_changes_what_was_handed_in(self):
        noted = {"a": 2, "b": 1, "c": 0}

        def chooser(stand, may_come):
            noted.clear()
            return may_come[0]

        told = run_to_notes(ABC, noted, 1, chooser)
        self.assertTold(told, run_to_notes(ABC, {"a": 2, "b": 1, "c": 0}, 1, first_of_those))

    def test_wrong_ones(self):
        good = {"a": 0, "b": 0, "c": 0}
        for thing in ANYTHING + [{"a": 0, "b": 0, "c": -1}]:
            self.assertRefused(BadNoted, {"noted": thing}, run_to_notes, ABC, thing, None, None)
            if isinstance(thing, bool) or not isinstance(thing, int) or thing < 1:
                self.assertRefused(BadMost, {"most": thing}, run_to_notes, ABC, {"a": 9, "b": 9, "c": 9}, thing, None)
            if not callable(thing):
                self.assertRefused(BadChooser, {"thing": thing}, run_to_notes, ABC, good, 1, thing)
        too_great = [({"a": 3, "b": 0, "c": 0}, 1), ({"a": 1, "b": 1, "c": 1}, 5), ({"a": 4, "b": 3, "c": 0}, 2)]
        for noted, most in too_great:
            self.assertRefused(BadNoted, {"noted": noted}, run_to_notes, ABC, noted, most, None)
        self.assertTold(run_to_notes(ABC, good, 1, first_of_those), [])


class Example(ToldCase):
    def test_the_documents(self):
        numbers = {"a": 2, "b": 1, "c": 0}
        script = Script([])
        run = run_to_numbers(ABC, numbers, script)
        self.assertTold(script.handed[0], (FIRST, [("a", "b"), ("b", "c")]))
        self.assertTold(run[0], ("a", "b"))
        other = run_to_numbers(ABC, numbers, Script([1]))
        self.assertTold(other[0], ("b", "c"))
        for told in (run, other):
            places = FIRST
            for one, behind in told:
                places = slowly.moved(places, one, behind)
            self.assertTrue(is_same(places, {"a": 2, "b": 1, "c": 0}))


if __name__ == "__main__":
    unittest.main()

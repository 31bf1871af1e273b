"""Section 21 of the document: askers."""

import itertools
import random
import unittest

from ringwalkers.askers import beat_asker, run_asker
from ringwalkers.errors import BadChooser, BadPath, BadStand
from ringwalkers.madenumbers import stand_of_made
from ringwalkers.paths import Path
from ringwalkers.refusals import BadAnswer, BadTop

from tests import slowly
from tests.anything import ANYTHING
from tests.told import ToldCase

ABC = Path(["a", "b", "c"])
FIRST = {"a": 0, "b": 1, "c": 2}
STAND = {"a": 4, "b": 0, "c": -1}


def tells_first(asked):
    return FIRST


def asks(names, lacking):
    """An asker who asks some, and tells the stand in which those who lack made 0, the first stand if there is none."""
    def asker(asked):
        if len(asked) < len(names):
            return names[len(asked)]
        numbers = {**dict(asked), **{name: 0 for name in lacking}}
        places = stand_of_made(Path(sorted(numbers)), numbers)
        return {name: index for index, name in enumerate(sorted(numbers))} if places is None else places

    return asker


class Run(ToldCase):
    def test_whom_it_asks(self):
        chance = random.Random(213)
        for names, near in slowly.small_paths():
            path = Path(names)
            for walked in near[:60]:
                row = chance.sample(names, chance.randint(0, len(names)))
                answer = chance.choice(near).places
                backward = {name: answer[name] for name in names[::-1]}
                handed = []

                def asker(asked):
                    handed.append(list(asked))
                    count = len(asked)
                    asked.append("spoilt")
                    return row[count] if count < len(row) else backward

                told = run_asker(path, walked.places, asker)
                self.assertTold(told, (row, answer))
                self.assertIsNot(told[1], backward)
                made = [(name, slowly.made(walked, name)) for name in row]
                self.assertTold(handed, [made[:count] for count in range(len(row) + 1)])

    def test_later_changes_of_the_answer(self):
        answer = dict(FIRST)
        _, told = run_asker(ABC, STAND, lambda asked: answer)
        answer["a"] = 9
        self.assertTold(told, FIRST)

    def test_twenty_far_ones(self):
        names = slowly.many_names(20)
        stand = slowly.far_stand(names, [0] + [(-1) ** index * (10 ** 18 + index) for index in range(19)])
        path = Path(names)

        def asker(asked):
            return stand_of_made(path, dict(asked)) if len(asked) == 20 else names[::-1][len(asked)]

        self.assertTold(run_asker(path, stand, asker), (names[::-1], stand))

    def test_answers_that_are_neither(self):
        for thing in ANYTHING + ["d", {"a": 0, "b": 1, "c": 1}, ["a"], {"a": 0, "b": 1}]:
            if thing not in ("a", "b"):
                for row in ([], ["c"], ["c", "a"]):
                    asked_so_far = []

                    def asker(asked):
                        asked_so_far.append(asked)
                        return row[len(asked)] if len(asked) < len(row) else thing

                    self.assertRefused(BadAnswer, {"thing": thing}, run_asker, ABC, STAND, asker)
                    self.assertEqual(len(asked_so_far), len(row) + 1)
        self.assertRefused(BadAnswer, {"thing": "a"}, run_asker, ABC, STAND, lambda asked: "a")
        self.assertRefused(BadAnswer, {"thing": "a"}, run_asker, ABC, STAND, lambda asked: "abca"[len(asked)])

    def test_what_it_raises_comes_out(self):
        def asker(asked):
            raise KeyError("why")

        with self.assertRaises(KeyError):
            run_asker(ABC, STAND, asker)
        with self.assertRaises(KeyError):
            beat_asker(ABC, asker, 0)

    def test_wrong_ones(self):
        for thing in ANYTHING:
            if not callable(thing):
                self.assertRefused(BadChooser, {"thing": thing}, run_asker, ABC, STAND, thing)
                self.assertRefused(BadChooser, {"thing": thing}, beat_asker, ABC, thing, None)
            if isinstance(thing, bool) or not isinstance(thing, int) or thing < 0:
                self.assertRefused(BadTop, {"top": thing}, beat_asker, ABC, tells_first, thing)
        self.assertRefused(BadStand, {"stand": None}, run_asker, ABC, None, None)
        self.assertRefused(BadPath, {"thing": None}, beat_asker, None, None, None)


class Beaten(ToldCase):
    def test_all_stands_in_order(self):
        for many, top in ((2, 4), (3, 2), (4, 1), (4, 4)):
            names = slowly.names_of(many)
            path = Path(names)
            lists = [row for row in itertools.product(range(top + 1), repeat=many) if 0 in row]
            stands = [stand_of_made(path, dict(zip(names, row))) for row in lists]
            for wrong in [0, 1, len(lists) // 2, len(lists) - 1, None]:
                seen = []

                def asker(asked):
                    if len(asked) < many:
                        return names[len(asked)]
                    row = tuple(number for _, number in asked)
                    seen.append(row)
                    right = stands[lists.index(row)]
                    return slowly.moved(right, *slowly.moves(right)[0]) if len(seen) - 1 == wrong else right

                expected = None if wrong is None else stands[wrong]
                self.assertTold(beat_asker(path, asker, top), expected)
                self.assertEqual(seen, lists if wrong is None else lists[:wrong + 1])

    def test_by_the_numbers_of_all_but_one(self):
        # Enough just if none of these is 0: then the one made 0.
        for many, top in ((2, 4), (3, 3), (4, 2)):
            names = sorted(slowly.names_of(many))
            path = Path(names)
            for lacking in names:
                others = [name for name in names if name != lacking]
                told = beat_asker(path, asks(others, [lacking]), top)
                lists = [row for row in itertools.product(range(top + 1), repeat=many)
                         if 0 in row and row[names.index(lacking)] > 0]
                self.assertTold(told, stand_of_made(path, dict(zip(names, lists[0]))))

    def test_who_asks_all(self):
        for many in (2, 3, 4):
            names = sorted(slowly.names_of(many))
            self.assertTold(beat_asker(Path(names), asks(names, []), 4), None)
        self.assertTold(beat_asker(ABC, tells_first, 0), None)
        self.assertTold(beat_asker(ABC, tells_first, 1), {"a": -1, "b": 1, "c": 3})

    def test_no_answer(self):
        self.assertRefused(BadAnswer, {"thing": None}, beat_asker, ABC, lambda asked: None, 3)
        self.assertRefused(BadAnswer, {"thing": "a"}, beat_asker, ABC, lambda asked: "a", 3)


class Example(ToldCase):
    def test_the_documents(self):
        told = beat_asker(ABC, asks(["a", "b"], ["c"]), 1)
        self.assertTold(told, stand_of_made(ABC, {"a": 0, "b": 0, "c": 1}))


if __name__ == "__main__":
    unittest.main()

"""Section 20 of the document: drawn steps, one walker by them, runs that are drawn."""

import random
import unittest
from fractions import Fraction

from ringwalkers.drawnsteps import chance_grown, drawn_run, further_on, mean_square
from ringwalkers.errors import BadChooser, BadNumber, BadStand, NoWalker, SameWalker
from ringwalkers.paths import Path
from ringwalkers.refusals import BadMore, BadSteps
from ringwalkers.runs import run_end

from tests import draws, slowly
from tests.anything import ANYTHING
from tests.told import ToldCase

ABC = Path(["a", "b", "c"])
FIRST = {"a": 0, "b": 1, "c": 2}
STAND = {"a": 4, "b": 0, "c": -1}


class FurtherOn(ToldCase):
    def test_near_stands(self):
        for names, near in slowly.small_paths():
            path = Path(names)
            for walked in near:
                for one, other in slowly.all_pairs(names):
                    expected = draws.further(names, walked.places, one, other)
                    self.assertTold(further_on(path, walked.places, one, other), expected)

    def test_twenty_far_ones(self):
        names = slowly.many_names(20)
        stand = slowly.far_stand(names, [0] + [(-1) ** index * (10 ** 18 + index) for index in range(19)])
        for one, other in slowly.all_pairs(names):
            self.assertTold(further_on(Path(names), stand, one, other), draws.further(names, stand, one, other))

    def test_wrong_ones(self):
        self.assertRefused(SameWalker, {"walker": "b"}, further_on, ABC, STAND, "b", "b")
        self.assertRefused(NoWalker, {"walker": "d"}, further_on, ABC, STAND, "d", "d")
        self.assertRefused(NoWalker, {"walker": None}, further_on, ABC, STAND, "a", None)
        self.assertRefused(BadStand, {"stand": None}, further_on, ABC, None, "b", "b")


class OneWalker(ToldCase):
    def test_all_draws(self):
        for names, places, steps in draws.scenes():
            path = Path(names)
            ends = draws.ends_of(tuple(names), slowly.key(places), steps)
            for walker in names:
                grown = [walked.places[walker] - places[walker] for walked in ends]
                for more in range(-steps - 2, steps + 3):
                    share = Fraction(grown.count(more), len(grown))
                    self.assertTold(chance_grown(path, steps, more), draws.as_told(share))
                squares = Fraction(sum(each * each for each in grown), len(grown))
                self.assertTold(mean_square(path, steps), draws.as_told(squares))

    def test_step_by_step(self):
        for many, most in ((2, 40), (3, 60), (20, 60)):
            path = Path(slowly.many_names(many))
            ways = {0: 1}
            for steps in range(most + 1):
                if steps % 20 == 0:
                    for more in range(-steps - 1, steps + 2):
                        share = Fraction(ways.get(more, 0), many ** steps)
                        self.assertTold(chance_grown(path, steps, more), draws.as_told(share))
                behind = {}
                for grown, known in ways.items():
                    for more, times in ((1, 1), (-1, 1), (0, many - 2)):
                        behind[grown + more] = behind.get(grown + more, 0) + known * times
                ways = behind

    def test_many_steps(self):
        for many in (2, 3, 20):
            path = Path(slowly.many_names(many))
            chances = {more: chance_grown(path, 200, more) for more in range(-200, 201)}
            self.assertEqual(sum(Fraction(*each) for each in chances.values()), 1)
            mean = sum(Fraction(*each) * more * more for more, each in chances.items())
            self.assertTold(mean_square(path, 200), draws.as_told(mean))
            for more, each in chances.items():
                self.assertEqual(each, chances[-more])
            self.assertTold(chance_grown(path, 200, 10 ** 30), (0, 1))
            self.assertTold(chance_grown(path, 200, -10 ** 30), (0, 1))
        self.assertTold(chance_grown(ABC, 0, 0), (1, 1))
        self.assertTold(chance_grown(ABC, 0, 1), (0, 1))
        self.assertTold(mean_square(ABC, 10 ** 20), (2 * 10 ** 20, 3))
        self.assertTold(mean_square(ABC, 0), (0, 1))

    def test_wrong_ones(self):
        for thing in ANYTHING:
            if isinstance(thing, bool) or not isinstance(thing, int) or thing < 0:
                self.assertRefused(BadSteps, {"steps": thing}, chance_grown, ABC, thing, None)
                self.assertRefused(BadSteps, {"steps": thing}, mean_square, ABC, thing)
            if isinstance(thing, bool) or not isinstance(thing, int):
                self.assertRefused(BadMore, {"more": thing}, chance_grown, ABC, 3, thing)


class Drawn(ToldCase):
    def test_drawn_ones(self):
        chance = random.Random(205)
        for names, near in slowly.small_paths():
            path = Path(names)
            for walked in near[:20]:
                steps = chance.randint(0, 9)
                numbers = [chance.randrange(len(names)) for _ in range(steps)]
                handed = []

                def chooser(many):
                    handed.append(many)
                    return numbers[len(handed) - 1]

                run, here = [], walked.places
                for number in numbers:
                    one = names[number]
                    run.append((one, dict(slowly.moves(here))[one]))
                    here = slowly.moved(here, *run[-1])
                self.assertTold(drawn_run(path, walked.places, steps, chooser), (run, here))
                self.assertEqual(handed, [len(names)] * steps)
                self.assertEqual({type(each) for each in handed} | {int}, {int})

    def test_many_steps(self):
        names = slowly.many_names(20)
        path = Path(names)
        stand = slowly.far_stand(names, [0] + [(-1) ** index * 10 ** 18 for index in range(19)])
        chance = random.Random(206)
        run, end = drawn_run(path, stand, 400, chance.randrange)
        self.assertEqual(len(run), 400)
        self.assertTold(end, run_end(path, stand, run))
        self.assertTold(drawn_run(path, stand, 0, chance.randrange), ([], stand))

    def test_answers_that_are_none(self):
        for thing in ANYTHING + [3, -1, "0", 1.0]:
            if isinstance(thing, bool) or not isinstance(thing, int) or not 0 <= thing < 3:
                for count in range(3):
                    answers = [1] * count + [thing] + [2] * 5
                    asked = []

                    def chooser(many):
                        asked.append(many)
                        return answers[len(asked) - 1]

                    self.assertRefused(BadNumber, {"number": thing}, drawn_run, ABC, STAND, 5, chooser)
                    self.assertEqual(len(asked), count + 1)

    def test_what_it_raises_comes_out(self):
        def chooser(many):
            raise KeyError(many)

        with self.assertRaises(KeyError):
            drawn_run(ABC, STAND, 1, chooser)
        self.assertTold(drawn_run(ABC, STAND, 0, chooser), ([], STAND))

    def test_wrong_ones(self):
        for thing in ANYTHING:
            if not callable(thing):
                self.assertRefused(BadChooser, {"thing": thing}, drawn_run, ABC, STAND, 0, thing)
            if isinstance(thing, bool) or not isinstance(thing, int) or thing < 0:
                self.assertRefused(BadSteps, {"steps": thing}, drawn_run, ABC, STAND, thing, None)


class Example(ToldCase):
    def test_the_documents(self):
        self.assertTold(further_on(ABC, FIRST, "a", "c"), 2)
        self.assertTold(chance_grown(ABC, 2, 1), (2, 9))
        self.assertTold(chance_grown(ABC, 2, 0), (1, 3))
        self.assertTold(drawn_run(ABC, FIRST, 2, lambda many: 0)[0], [("a", "b"), ("a", "c")])


if __name__ == "__main__":
    unittest.main()

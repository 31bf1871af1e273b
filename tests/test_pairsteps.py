"""Section 20 of the document: two walkers by drawn steps."""

import unittest
from fractions import Fraction

from ringwalkers.drawnsteps import further_on
from ringwalkers.errors import BadPath, BadStand, NoWalker, SameWalker
from ringwalkers.pairsteps import chance_first, chances_further, mean_net, mean_steps
from ringwalkers.paths import Path
from ringwalkers.refusals import BadSteps

from tests import draws, slowly
from tests.anything import ANYTHING
from tests.told import ToldCase

ABC = Path(["a", "b", "c"])
FIRST = {"a": 0, "b": 1, "c": 2}
STAND = {"a": 4, "b": 0, "c": -1}


class WhoFirst(ToldCase):
    def test_by_equations(self):
        for many in (2, 3, 4, 5):
            names = slowly.names_of(many)
            path = Path(names)
            near = list(slowly.explore(names, 3 if many < 5 else 2).values())
            pairs = slowly.all_pairs(names) if many < 5 else [("a", "b"), ("e", "c")]
            for one, other in pairs:
                chances, means = draws.till_one_overtakes(names, one, other)
                for walked in near:
                    ahead = dict(slowly.moves(walked.places))
                    row = [names[0]]
                    while len(row) < many:
                        row.append(ahead[row[-1]])
                    chance, mean = chances[tuple(row)], means[tuple(row)]
                    self.assertTold(chance_first(path, walked.places, one, other), draws.as_told(chance))
                    self.assertTold(mean_steps(path, walked.places, one, other), draws.as_told(mean))

    def test_twenty_far_ones(self):
        names = slowly.many_names(20)
        path = Path(names)
        stand = slowly.far_stand(names, [0] + [(-1) ** index * (10 ** 18 + index) for index in range(19)])
        for one, other in slowly.all_pairs(names):
            further = draws.further(names, stand, one, other)
            first = Fraction(*chance_first(path, stand, one, other))
            self.assertEqual(first, Fraction(21 - further, 22))
            self.assertEqual(first + Fraction(*chance_first(path, stand, other, one)), 1)
            mean = Fraction(20 * (further * (20 - further) + 19), 4)
            self.assertTold(mean_steps(path, stand, one, other), draws.as_told(mean))


class HowFar(ToldCase):
    def test_all_draws(self):
        for names, places, steps in draws.scenes():
            path = Path(names)
            begun = slowly.begin_of(names, places)
            ends = draws.ends_of(tuple(names), slowly.key(places), steps)
            for one, other in slowly.all_pairs(names)[:6]:
                places_on = [draws.further(names, walked.places, one, other) for walked in ends]
                expected = {place: draws.as_told(Fraction(places_on.count(place), len(ends)))
                            for place in range(1, len(names))}
                self.assertTold(chances_further(path, places, one, other, steps), expected)
                # What is walked counts from these places on.
                grown = sum(walked.nets[one, other] - begun.nets[one, other] for walked in ends)
                told = mean_net(path, places, one, other, steps)
                self.assertTold(told, draws.as_told(Fraction(grown, len(ends))))

    def test_many_steps(self):
        for many in (2, 3, 7, 20):
            names = slowly.many_names(many)
            path = Path(names)
            stand = slowly.far_stand(names, [0] + [(-1) ** index * (10 ** 18 + index) for index in range(many - 1)])
            one, other = names[0], names[-1]
            chances = {place: Fraction(int(place == further_on(path, stand, one, other))) for place in range(1, many)}
            net = Fraction(0)
            for steps in range(201):
                if steps in (0, 1, 17, 200):
                    told = {place: draws.as_told(chance) for place, chance in chances.items()}
                    self.assertTold(chances_further(path, stand, one, other, steps), told)
                    self.assertTold(mean_net(path, stand, one, other, steps), draws.as_told(net))
                    back = mean_net(path, stand, other, one, steps)
                    self.assertTold(back, draws.as_told(-net))
                net += (chances[1] - chances[many - 1]) / many
                chances = self.step(many, chances)

    def step(self, many, chances):
        """By whoever is drawn: other, the one right behind other, one, the one right behind one, or anybody else."""
        behind = {place: Fraction(0) for place in chances}
        for place, chance in chances.items():
            # Right behind other is one, if other is right ahead; right behind one is other, if one is right ahead.
            pushes = [1, -1] + ([-1] if place > 1 else []) + ([1] if place < many - 1 else [])
            for push in pushes:
                onto = place + push
                onto = many - 1 if onto == 0 else 1 if onto == many else onto
                behind[onto] += chance / many
            behind[place] += chance * (many - len(pushes)) / many
        return behind


class Wrong(ToldCase):
    def test_wrong_ones(self):
        calls = [chance_first, mean_steps, lambda *rest: chances_further(*rest, None),
                 lambda *rest: mean_net(*rest, None)]
        for work in calls:
            self.assertRefused(BadPath, {"thing": None}, work, None, None, None, None)
            self.assertRefused(BadStand, {"stand": None}, work, ABC, None, None, None)
            for thing in ANYTHING:
                if thing not in ("a", "b", "c"):
                    self.assertRefused(NoWalker, {"walker": thing}, work, ABC, STAND, thing, None)
                    self.assertRefused(NoWalker, {"walker": thing}, work, ABC, STAND, "a", thing)
            self.assertRefused(SameWalker, {"walker": "c"}, work, ABC, STAND, "c", "c")
        for thing in ANYTHING:
            if isinstance(thing, bool) or not isinstance(thing, int) or thing < 0:
                self.assertRefused(BadSteps, {"steps": thing}, chances_further, ABC, STAND, "a", "b", thing)
                self.assertRefused(BadSteps, {"steps": thing}, mean_net, ABC, STAND, "a", "b", thing)


class Example(ToldCase):
    def test_the_documents(self):
        self.assertTold(chance_first(ABC, FIRST, "a", "b"), (3, 5))
        self.assertTold(chance_first(ABC, FIRST, "a", "c"), (2, 5))
        self.assertTold(mean_steps(ABC, FIRST, "a", "b"), (3, 1))
        self.assertTold(chances_further(ABC, FIRST, "a", "b", 1), {1: (0, 1), 2: (1, 1)})
        self.assertTold(mean_net(ABC, FIRST, "a", "b", 1), (1, 3))
        self.assertTold(mean_net(ABC, FIRST, "a", "b", 2), (0, 1))


if __name__ == "__main__":
    unittest.main()

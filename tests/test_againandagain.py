"""Section 6 of the document: the same again, circles, for ever, who is fastest."""

import itertools
import unittest
from fractions import Fraction

from ringwalkers.againandagain import again, and_then, circles, fastest, for_ever, times_back, undone
from ringwalkers.errors import BadStand, BadTimes, NoWalker
from ringwalkers.madenumbers import stand_of_made
from ringwalkers.paths import Path, first_stand, is_stand, net
from ringwalkers.tables import in_all

from tests import slowly
from tests.told import ToldCase

ABC = Path(["a", "b", "c"])
STAND = {"a": 4, "b": 0, "c": -1}


def spots_of(names, run):
    """The rests at which somebody overtakes, one behind another, in a run from the first stand."""
    places = {name: index for index, name in enumerate(names)}
    spots = []
    for one, other in run:
        spots.append(places[one] % len(names))
        places = slowly.moved(places, one, other)
    return spots


def walk_spots(names, walked, spots):
    """Goes on so that at each step whoever stands on the spot overtakes."""
    for spot in spots:
        one = [name for name in names if walked.places[name] % len(names) == spot][0]
        other = dict(slowly.moves(walked.places))[one]
        walked = slowly.gone(walked, one, other)
    return walked


def first_of(names):
    return slowly.begin_of(names, {name: index for index, name in enumerate(names)})


class TheSameAgain(ToldCase):
    def test_step_by_step(self):
        for names, stands in slowly.small_paths():
            path = Path(names)
            for walked in stands:
                now = first_of(names)
                for times in range(7):
                    self.assertTold(again(path, walked.places, times), now.places)
                    now = walk_spots(names, now, spots_of(names, walked.run))

    def test_and_then_step_by_step(self):
        for names, depth in ((["a", "b"], 4), (["a", "b", "c"], 4), (["a", "b", "c", "d"], 2)):
            path = Path(names)
            stands = list(slowly.explore(names, depth).values())
            for former, latter in itertools.product(stands, repeat=2):
                behind = walk_spots(names, walk_spots(names, first_of(names), spots_of(names, former.run)),
                                    spots_of(names, latter.run))
                told = and_then(path, former.places, latter.places)
                self.assertTold(told, behind.places)
                self.assertLessEqual(in_all(path, told), former.distance + latter.distance)

    def test_undone(self):
        for names, stands in slowly.small_paths():
            path = Path(names)
            for walked in stands:
                back = walk_spots(names, first_of(names), spots_of(names, walked.run)[::-1])
                told = undone(path, walked.places)
                self.assertTold(told, back.places)
                self.assertTold(and_then(path, walked.places, told), first_stand(path))
                self.assertTold(and_then(path, told, walked.places), first_stand(path))
                self.assertEqual(in_all(path, told), walked.distance)

    def test_great_times(self):
        for many in (2, 3, 20):
            names = slowly.many_names(many)
            path = Path(names)
            numbers = {name: pow(3, index, 101) if index else 0 for index, name in enumerate(names)}
            stand = stand_of_made(path, numbers)
            for times in (10 ** 15, 10 ** 20 + 7, 10 ** 300 + 1):
                behind = again(path, stand, times)
                self.assertIs(is_stand(path, behind), True)
                self.assertTold(again(path, stand, times + 1), and_then(path, behind, stand))
                self.assertTold(again(path, again(path, stand, 10 ** 10), 10 ** 10), again(path, stand, 10 ** 20))
            round_times = times_back(path, stand)
            grown = {name: place - index for index, (name, place) in enumerate(again(path, stand, round_times).items())}
            self.assertTold(again(path, stand, round_times * 10 ** 20),
                            {name: index + grown[name] * 10 ** 20 for index, name in enumerate(names)})

    def test_far_stands(self):
        names = slowly.many_names(20)
        path = Path(names)
        laps = [(-1) ** index * (10 ** 17 + index) for index in range(20)]
        stand = slowly.far_stand(names, laps)
        laps[0] -= sum(laps)
        self.assertTold(again(path, stand, 10 ** 20), {name: index + 20 * laps[index] * 10 ** 20
                                                       for index, name in enumerate(names)})
        self.assertTold(undone(path, stand), {name: index - 20 * laps[index] for index, name in enumerate(names)})

    def test_wrong_inputs(self):
        for thing in (-1, True, False, None, "1", [1], (), 1.0):
            self.assertRefused(BadTimes, {"times": thing}, again, ABC, STAND, thing)
        no_stand = {"a": 0, "b": 1, "c": 3}
        self.assertRefused(BadStand, {"stand": no_stand}, and_then, ABC, STAND, no_stand)
        self.assertRefused(BadStand, {"stand": no_stand}, and_then, ABC, no_stand, {"a": 1})
        self.assertRefused(BadStand, {"stand": no_stand}, again, ABC, no_stand, -1)

    def test_told_in_the_order_of_the_path(self):
        turned = {"c": -1, "b": 0, "a": 4}
        self.assertTold(again(ABC, turned, 1), STAND)
        self.assertTold(again(ABC, turned, 0), {"a": 0, "b": 1, "c": 2})
        self.assertTold(and_then(ABC, turned, {"c": 2, "b": 1, "a": 0}), STAND)
        self.assertTold(undone(ABC, turned), {"a": 1, "b": -3, "c": 5})


class Circles(ToldCase):
    def test_near_stands(self):
        for names, stands in slowly.small_paths():
            path = Path(names)
            for walked in stands:
                told = circles(path, walked.places)
                self.assertIs(type(told), list)
                self.assertEqual(sorted(name for walkers, _ in told for name in walkers), sorted(names))
                self.assertEqual([walkers[0] for walkers, _ in told],
                                 [name for name in names if name in [walkers[0] for walkers, _ in told]])
                self.assertEqual(sum(gain for _, gain in told), 0)
                for circle in told:
                    self.check_circle(names, walked, circle)

    def check_circle(self, names, walked, circle):
        self.assertIs(type(circle), tuple)
        walkers, gain = circle
        self.assertIs(type(walkers), list)
        self.assertEqual(walkers[0], min(walkers, key=names.index))
        for name, following in zip(walkers, walkers[1:] + walkers[:1]):
            self.assertEqual(walked.places[name] % len(names), names.index(following))
        self.assertEqual(gain % len(names), 0)
        now = first_of(names)
        for _ in walkers:
            now = walk_spots(names, now, spots_of(names, walked.run))
        for name in walkers:
            self.assertEqual(now.places[name] - names.index(name), gain)

    def test_times_back(self):
        for names, stands in slowly.small_paths():
            path = Path(names)
            for walked in stands:
                now = walk_spots(names, first_of(names), spots_of(names, walked.run))
                times = 1
                while any(now.places[name] % len(names) != index for index, name in enumerate(names)):
                    now = walk_spots(names, now, spots_of(names, walked.run))
                    times += 1
                self.assertTold(times_back(path, walked.places), times)

    def test_twenty(self):
        names = slowly.many_names(20)
        path = Path(names)
        parts = [names[:5], names[5:8], names[8:15], names[15:]]
        order = [name for part in parts for name in part[1:] + part[:1]]
        stand = {name: order.index(name) for name in names}
        self.assertTold(is_stand(path, stand), True)
        # Five, three, seven and five go round.
        self.assertTold([(sorted(walkers), gain) for walkers, gain in circles(path, stand)],
                        [(sorted(part), 0) for part in parts])
        self.assertTold(times_back(path, stand), 105)
        stand["w3"] += 20 * 10 ** 18
        stand["w12"] -= 20 * 10 ** 18
        self.assertTold([gain for _, gain in circles(path, stand)], [20 * 10 ** 18, 0, -20 * 10 ** 18, 0])
        self.assertTold(for_ever(path, stand, "w0", "w9"), (24 * 10 ** 17, 7))
        self.assertTold(fastest(path, stand), names[:5])


class ForEver(ToldCase):
    def test_the_mean(self):
        for names, stands in slowly.small_paths():
            path = Path(names)
            for walked in stands:
                times = times_back(path, walked.places)
                spots = spots_of(names, walked.run)
                now = first_of(names)
                for rounds in (1, 2, 3):
                    for _ in range(times):
                        now = walk_spots(names, now, spots)
                    for pair in slowly.all_pairs(names):
                        mean = Fraction(now.nets[pair], times * rounds)
                        self.assertTold(for_ever(path, walked.places, *pair), (mean.numerator, mean.denominator))
                        self.assertEqual(net(path, again(path, walked.places, times * rounds), *pair), now.nets[pair])
                for name in names:
                    self.assertTold(for_ever(path, walked.places, name, name), (0, 1))

    def test_fastest(self):
        for names, stands in slowly.small_paths():
            path = Path(names)
            for walked in stands:
                expected = [name for name in names
                            if not any(for_ever(path, walked.places, other, name)[0] > 0 for other in names)]
                self.assertTold(fastest(path, walked.places), expected)
                gains = [gain for _, gain in circles(path, walked.places)]
                if not any(gains):
                    self.assertTold(fastest(path, walked.places), names)
                    self.assertTold(again(path, walked.places, times_back(path, walked.places)), first_stand(path))

    def test_fastest_of_circles_however_long(self):
        path = Path(["a", "b", "c", "d", "e", "f"])
        # One alone gains 6, two gain 6, three lose 12.
        alone = {"a": 6, "b": 2, "c": 7, "d": -2, "e": -1, "f": 3}
        self.assertTold(circles(path, alone), [(["a"], 6), (["b", "c"], 6), (["d", "e", "f"], -12)])
        self.assertTold(fastest(path, alone), ["a"])
        self.assertTold(for_ever(path, alone, "a", "b"), (1, 2))
        three = {"a": -6, "b": 2, "c": 1, "d": 4, "e": 5, "f": 9}
        self.assertTold(circles(path, three), [(["a"], -6), (["b", "c"], 0), (["d", "e", "f"], 6)])
        self.assertTold(fastest(path, three), ["d", "e", "f"])
        for many in (6, 9, 20):
            names = slowly.many_names(many)
            path = Path(names)
            for turn in range(60):
                made = {name: pow(7, 2 + turn + index * (turn + 3), 10 ** 9 + 7) % (10 ** (1 + turn % 8))
                        for index, name in enumerate(names)}
                made[names[turn % many]] = 0
                stand = stand_of_made(path, made)
                speeds = {name: Fraction(gain, len(walkers))
                          for walkers, gain in circles(path, stand) for name in walkers}
                best = max(speeds.values())
                self.assertTold(fastest(path, stand), [name for name in names if speeds[name] == best])
                for one, other in slowly.all_pairs(names)[::7]:
                    share = (speeds[one] - speeds[other]) / many
                    self.assertTold(for_ever(path, stand, one, other), (share.numerator, share.denominator))

    def test_no_walker(self):
        self.assertRefused(NoWalker, {"walker": "d"}, for_ever, ABC, STAND, "d", "e")
        self.assertRefused(NoWalker, {"walker": "e"}, for_ever, ABC, STAND, "a", "e")
        self.assertRefused(NoWalker, {"walker": "d"}, for_ever, ABC, STAND, "d", "d")


class Example(ToldCase):
    def test_the_documents(self):
        self.assertTold(again(ABC, STAND, 2), {"a": 3, "b": 4, "c": -4})
        self.assertTold(circles(ABC, STAND), [(["a", "b"], 3), (["c"], -3)])
        self.assertTold(times_back(ABC, STAND), 2)
        self.assertTold(for_ever(ABC, STAND, "a", "c"), (3, 2))
        self.assertTold(for_ever(ABC, STAND, "a", "b"), (0, 1))
        self.assertTold(undone(ABC, STAND), {"a": 1, "b": -3, "c": 5})
        self.assertTold(fastest(ABC, STAND), ["a", "b"])
        self.assertTold(and_then(ABC, {"a": 1, "b": 0, "c": 2}, {"a": 0, "b": 2, "c": 1}), {"a": 2, "b": 0, "c": 1})


if __name__ == "__main__":
    unittest.main()

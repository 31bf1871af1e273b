"""Section 3 of the document: paths, stands, who is right behind whom, nets, all turned about."""

import itertools
import unittest

from ringwalkers.errors import BadWalkers, NotBehind, NoWalker
from ringwalkers.paths import Path, first_stand, going_round, is_stand, net, overtaken, right_ahead, turned

from tests import slowly
from tests.anything import ANYTHING
from tests.told import ToldCase, shape

ABC = Path(["a", "b", "c"])


def is_name(thing):
    if type(thing) is not str or not 1 <= len(thing) <= 8:
        return False
    letters = [chr(code) for code in range(ord("a"), ord("z") + 1)]
    figures = [chr(code) for code in range(ord("0"), ord("9") + 1)]
    return thing[0] in letters and all(sign in letters + figures for sign in thing)


class Walkers(ToldCase):
    def test_the_list_is_kept_and_told_anew(self):
        given = ["c", "a", "walker01", "z9"]
        path = Path(given)
        self.assertTold(path.walkers(), ["c", "a", "walker01", "z9"])
        given.append("d")
        path.walkers().append("e")
        path.walkers()[0] = "f"
        self.assertTold(path.walkers(), ["c", "a", "walker01", "z9"])
        self.assertTold(Path(("c", "a")).walkers(), ["c", "a"])
        self.assertTold(Path(walkers=["c", "a"]).walkers(), ["c", "a"])

    def test_equal_if_the_lists_are(self):
        self.assertTrue(Path(["a", "b"]) == Path(("a", "b")))
        self.assertFalse(Path(["a", "b"]) != Path(("a", "b")))
        for others in (["b", "a"], ["a", "c"], ["a", "b", "c"]):
            self.assertTrue(Path(["a", "b"]) != Path(others))
            self.assertFalse(Path(["a", "b"]) == Path(others))
            self.assertIs(Path(["a", "b"]) == Path(others), False)
        self.assertIs(Path(["a", "b"]) == Path(["a", "b"]), True)

    def test_equal_to_none_of_another_class(self):
        for thing in ANYTHING:
            if not isinstance(thing, Path):
                self.assertFalse(ABC == thing)
                self.assertTrue(ABC != thing)

    def test_two_and_twenty_and_more(self):
        for many in (2, 3, 20, 26):
            names = slowly.many_names(many)
            self.assertTold(Path(names).walkers(), names)

    def test_no_list(self):
        for thing in ANYTHING:
            if not isinstance(thing, (list, tuple)):
                self.assertRefused(BadWalkers, {"index": 0}, Path, thing)

    def test_the_first_that_is_no_name(self):
        signs = ["a-b", "a.b", "a\n", " a", "a ", "aB", "a" * 9, "\u00e4", "a\u00e4", "a\u0660", "a1", "z" * 8]
        for thing in ANYTHING + signs:
            for walkers in ([thing, "x", "y"], ["x", thing, "y"], ["x", "y", thing], ["x", "y", thing, "y", thing]):
                index = walkers.index(thing)
                if is_name(thing):
                    if len(walkers) == 3:
                        self.assertTold(Path(walkers).walkers(), walkers)
                else:
                    self.assertRefused(BadWalkers, {"index": index}, Path, walkers)
                    self.assertRefused(BadWalkers, {"index": index}, Path, tuple(walkers))

    def test_names_that_stood_before(self):
        self.assertRefused(BadWalkers, {"index": 1}, Path, ["a", "a"])
        self.assertRefused(BadWalkers, {"index": 2}, Path, ["a", "b", "a", 5])
        self.assertRefused(BadWalkers, {"index": 3}, Path, ["a", "b", "c", "b"])

    def test_long_lists(self):
        names = slowly.many_names(20000)
        self.assertRefused(BadWalkers, {"index": 20000}, Path, names + ["w7"])
        self.assertRefused(BadWalkers, {"index": 20000}, Path, names + [None])

    def test_fewer_than_two(self):
        self.assertRefused(BadWalkers, {"index": 0}, Path, [])
        self.assertRefused(BadWalkers, {"index": 0}, Path, ())
        self.assertRefused(BadWalkers, {"index": 1}, Path, ["a"])
        self.assertRefused(BadWalkers, {"index": 0}, Path, ["A"])


class Stands(ToldCase):
    def test_the_first_stand(self):
        for many in (2, 3, 7, 20, 23):
            names = slowly.many_names(many)
            self.assertTold(first_stand(Path(names)), {name: index for index, name in enumerate(names)})

    def test_all_dicts_of_small_integers(self):
        for many, low, high in ((2, -4, 5), (3, -3, 5), (4, -1, 4)):
            names = slowly.names_of(many)
            for values in itertools.product(range(low, high + 1), repeat=many):
                rests = sorted(value - many * (value // many) for value in values)
                expected = rests == list(range(many)) and sum(values) == sum(range(many))
                self.assertIs(is_stand(Path(names), dict(zip(names, values))), expected, values)

    def test_whatever_is_walked_to(self):
        for names, stands in slowly.small_paths():
            for walked in stands:
                self.assertIs(is_stand(Path(names), walked.places), True)

    def test_the_sum_counts(self):
        self.assertIs(is_stand(ABC, {"a": 3, "b": 1, "c": 2}), False)
        self.assertIs(is_stand(ABC, {"a": 0, "b": 1, "c": -1}), False)
        self.assertIs(is_stand(ABC, {"a": 3, "b": 1, "c": -1}), True)

    def test_the_rests_count(self):
        self.assertIs(is_stand(ABC, {"a": 1, "b": 1, "c": 1}), False)
        self.assertIs(is_stand(ABC, {"a": -1, "b": 2, "c": 2}), False)
        self.assertIs(is_stand(ABC, {"a": 4, "b": -2, "c": 1}), False)

    def test_the_walkers_count(self):
        for thing in ({"a": 0, "b": 1}, {"a": 0, "b": 1, "d": 2}, {"a": 0, "b": 1, "c": 2, "d": 3}, {},
                      {"a": 0, "b": 1, "c": 2, 3: 3}, {"a": 0, "b": 1, 2: 2}, {"a": 1, "b": 0}):
            self.assertIs(is_stand(ABC, thing), False)
        self.assertIs(is_stand(ABC, {"c": 2, "b": 1, "a": 0}), True)

    def test_the_kinds_count(self):
        for thing in ({"a": False, "b": 1, "c": 2}, {"a": 0, "b": True, "c": 2}, {"a": 0, "b": 1, "c": "2"},
                      {"a": 0, "b": 1, "c": None}, {"a": 0, "b": [1], "c": 2}, [0, 1, 2],
                      [("a", 0), ("b", 1), ("c", 2)], "abc", None, 3):
            self.assertIs(is_stand(ABC, thing), False)

    def test_any_object(self):
        for thing in ANYTHING:
            self.assertIs(is_stand(ABC, thing), False, shape(thing)[:80])

    def test_far_ones(self):
        for many in (2, 3, 20):
            names = slowly.many_names(many)
            stand = slowly.far_stand(names, [(-1) ** index * (10 ** 18 + index) for index in range(many)])
            self.assertIs(is_stand(Path(names), stand), True)
            stand[names[1]] += 1
            self.assertIs(is_stand(Path(names), stand), False)
            stand[names[0]] -= 1
            self.assertIs(is_stand(Path(names), stand), many == 2)


class RightBehind(ToldCase):
    def test_who_can_overtake_whom(self):
        for names, stands in slowly.small_paths():
            path = Path(names)
            for walked in stands:
                for one, other in slowly.moves(walked.places):
                    self.assertTold(right_ahead(path, walked.places, one), other)

    def test_going_round(self):
        for names, stands in slowly.small_paths():
            path = Path(names)
            for walked in stands:
                ahead = dict(slowly.moves(walked.places))
                for name in names:
                    row = [name]
                    while ahead[row[-1]] != name:
                        row.append(ahead[row[-1]])
                    self.assertTold(going_round(path, walked.places, name), row)
                    self.assertEqual(sorted(row), sorted(names))

    def test_twenty(self):
        names = slowly.many_names(20)
        self.assertTold(going_round(Path(names), first_stand(Path(names)), "w7"), names[7:] + names[:7])
        self.assertTold(right_ahead(Path(names), first_stand(Path(names)), "w19"), "w0")


class Overtaking(ToldCase):
    def test_places_behind(self):
        for names, stands in slowly.small_paths():
            path = Path(names)
            for walked in stands:
                can = slowly.moves(walked.places)
                for one, other in itertools.product(names, repeat=2):
                    if (one, other) in can:
                        behind = slowly.moved(walked.places, one, other)
                        self.assertTold(overtaken(path, walked.places, one, other), behind)
                    else:
                        self.assertRefused(NotBehind, {"one": one, "other": other},
                                           overtaken, path, walked.places, one, other)

    def test_told_in_the_order_of_the_path(self):
        self.assertTold(overtaken(ABC, {"c": 2, "b": 1, "a": 0}, "a", "b"), {"a": 1, "b": 0, "c": 2})

    def test_no_walker_goes_ahead_of_not_behind(self):
        stand = first_stand(ABC)
        self.assertRefused(NoWalker, {"walker": "d"}, overtaken, ABC, stand, "a", "d")
        self.assertRefused(NoWalker, {"walker": "d"}, overtaken, ABC, stand, "d", "e")


class Nets(ToldCase):
    def test_the_overtakings_on_the_way(self):
        for names, stands in slowly.small_paths():
            path = Path(names)
            for walked in stands:
                for pair, number in walked.nets.items():
                    self.assertTold(net(path, walked.places, *pair), number)
                for name in names:
                    self.assertTold(net(path, walked.places, name, name), 0)

    def test_far_ones(self):
        for many in (2, 3, 20):
            names = slowly.many_names(many)
            laps = [(-1) ** index * (10 ** 18 - index) for index in range(many)]
            stand = slowly.far_stand(names, laps)
            laps[0] -= sum(laps)
            walked = slowly.begin_of(names, stand)
            for step in range(60):
                can = slowly.moves(walked.places)
                walked = slowly.gone(walked, *can[step * 7 % len(can)])
            for one, other in slowly.all_pairs(names):
                expected = laps[names.index(one)] - laps[names.index(other)] + walked.nets[one, other]
                self.assertTold(net(Path(names), walked.places, one, other), expected)


class TurnedAbout(ToldCase):
    def test_places_and_nets(self):
        for names, stands in slowly.small_paths():
            back = names[::-1]
            near = slowly.explore(back, 6 if len(names) < 4 else 4)
            for walked in stands:
                path, stand = turned(Path(names), walked.places)
                self.assertTold(path, Path(back))
                self.assertTold(stand, {name: len(names) - 1 - walked.places[name] for name in back})
                there = near[slowly.key(stand)]
                for one, other in slowly.all_pairs(names):
                    self.assertEqual(net(path, stand, one, other), there.nets[one, other])
                    self.assertEqual(there.nets[one, other], walked.nets[other, one])


class Example(ToldCase):
    def test_the_documents(self):
        stand = first_stand(ABC)
        self.assertTold(stand, {"a": 0, "b": 1, "c": 2})
        self.assertTold(right_ahead(ABC, stand, "c"), "a")
        stand = {"a": 2, "b": 1, "c": 0}
        self.assertTold(right_ahead(ABC, stand, "a"), "c")
        stand = {"a": 4, "b": 0, "c": -1}
        self.assertTold([net(ABC, stand, *pair) for pair in ("ab", "ac", "bc")], [2, 2, 1])


if __name__ == "__main__":
    unittest.main()

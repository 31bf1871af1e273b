"""Section 16 of the document: what one walker sees, and a look round."""

import itertools
import math
import unittest

from ringwalkers.errors import BadStand, NoWalker
from ringwalkers.paths import Path, going_round
from ringwalkers.refusals import BadRow, BadView
from ringwalkers.views import count_of_view, place_by, stand_seen, view

from tests import slowly
from tests.anything import ANYTHING
from tests.told import ToldCase

ABC = Path(["a", "b", "c"])
STAND = {"a": 4, "b": 0, "c": -1}
FAR = 10 ** 17


def round_from(places, walker):
    """All others as they come right ahead, one after another."""
    ahead = dict(slowly.moves(places))
    row = [ahead[walker]]
    while ahead[row[-1]] != walker:
        row.append(ahead[row[-1]])
    return row


def others_of(names, walker):
    return [name for name in names if name != walker]


class Views(ToldCase):
    def test_near_stands(self):
        for names, near in slowly.small_paths():
            path = Path(names)
            for walked in near:
                for walker in names:
                    seen = {other: walked.nets[walker, other] for other in others_of(names, walker)}
                    self.assertTold(view(path, walked.places, walker), seen)
                    self.assertTold(place_by(path, walker, seen), walked.places[walker])
                    self.assertTold(count_of_view(path, walker, seen), math.factorial(len(names) - 1))
                    row = round_from(walked.places, walker)
                    self.assertTold(stand_seen(path, walker, seen, row), walked.places)

    def test_all_with_one_view(self):
        for many, most, depth in ((2, 3, 4), (3, 2, 12), (4, 1, 16)):
            names = slowly.names_of(many)
            path = Path(names)
            near = list(slowly.explore(names, depth).values())
            for walker in names:
                others = others_of(names, walker)
                for nets in itertools.product(range(-most, most + 1), repeat=many - 1):
                    seen = dict(zip(others, nets))
                    stands = {tuple(round_from(walked.places, walker)): walked.places for walked in near
                              if all(walked.nets[walker, other] == seen[other] for other in others)}
                    # One for each row, all with one place of the walker.
                    self.assertEqual(sorted(stands), sorted(itertools.permutations(others)))
                    self.assertTold(count_of_view(path, walker, seen), len(stands))
                    for row, places in stands.items():
                        self.assertTold(place_by(path, walker, seen), places[walker])
                        self.assertTold(stand_seen(path, walker, seen, row), places)

    def test_twenty_far_ones(self):
        names = slowly.many_names(20)
        path = Path(names)
        walker = names[7]
        others = others_of(names, walker)
        seen = {name: (-1) ** index * (FAR + index) for index, name in enumerate(others[::-1])}
        row = others[::3] + others[1::3] + others[2::3]
        stand = stand_seen(path, walker, seen, row)
        self.assertEqual(list(stand), names)
        self.assertTold(view(path, stand, walker), {name: seen[name] for name in others})
        self.assertTold(going_round(path, stand, walker), [walker] + row)
        self.assertTold(place_by(path, walker, seen), 7 + sum(seen.values()))
        self.assertTold(stand[walker], 7 + sum(seen.values()))
        for name in others:
            self.assertEqual(slowly.net_by(names, stand, walker, name), seen[name])
        self.assertTold(count_of_view(path, walker, seen), math.factorial(19))

    def test_two_walkers(self):
        path = Path(["b", "a"])
        self.assertTold(view(path, {"a": -7, "b": 8}, "a"), {"b": -8})
        self.assertTold(place_by(path, "a", {"b": -4}), -3)
        self.assertTold(place_by(path, "a", {"b": -8}), -7)
        self.assertTold(stand_seen(path, "a", {"b": -8}, ["b"]), {"b": 8, "a": -7})
        self.assertTold(count_of_view(path, "b", {"a": 0}), 1)

    def test_wrong_views(self):
        bad = [{"b": 0}, {"b": 0, "c": 0, "a": 0}, {"b": 0, "a": 0}, {"b": 0, "c": True}, {"b": 0, "c": None},
               {"b": 0, "c": "0"}, {"b": 0, "d": 0}, [("b", 0), ("c", 0)]]
        for thing in ANYTHING + bad:
            self.assertRefused(BadView, {"view": thing}, place_by, ABC, "a", thing)
            self.assertRefused(BadView, {"view": thing}, count_of_view, ABC, "a", thing)
            self.assertRefused(BadView, {"view": thing}, stand_seen, ABC, "a", thing, None)
        for work in (place_by, count_of_view):
            self.assertRefused(NoWalker, {"walker": "d"}, work, ABC, "d", None)
        self.assertRefused(NoWalker, {"walker": "d"}, stand_seen, ABC, "d", None, None)
        self.assertRefused(BadStand, {"stand": None}, view, ABC, None, None)

    def test_wrong_rows(self):
        seen = {"b": 0, "c": 0}
        for thing in (None, 0, True, "bc", {"b": 0, "c": 1}, ABC, len):
            self.assertRefused(BadRow, {"index": 0}, stand_seen, ABC, "a", seen, thing)
        for thing, index in (([], 0), ((), 0), (["b"], 1), (["a", "b"], 0), (["b", "a"], 1), (["b", "b"], 1),
                             (["b", "b", "c"], 1), (["b", "c", "a"], 2), (["b", "c", "c"], 2), (["b", "c", None], 2),
                             (["b", "d"], 1), ([["b"], "c"], 0), (["b", True], 1)):
            self.assertRefused(BadRow, {"index": index}, stand_seen, ABC, "a", seen, thing)
        for thing in ANYTHING:
            if thing != "c":
                self.assertRefused(BadRow, {"index": 1}, stand_seen, ABC, "a", seen, ["b", thing])


class Example(ToldCase):
    def test_the_documents(self):
        self.assertTold(view(ABC, STAND, "a"), {"b": 2, "c": 2})
        self.assertTold(place_by(ABC, "a", {"b": 2, "c": 2}), 4)
        self.assertTold(count_of_view(ABC, "a", {"b": 2, "c": 2}), 2)
        self.assertTold(stand_seen(ABC, "a", {"b": 2, "c": 2}, ["c", "b"]), STAND)
        self.assertTold(stand_seen(ABC, "a", {"b": 2, "c": 2}, ["b", "c"]), {"a": 4, "b": -1, "c": 0})


if __name__ == "__main__":
    unittest.main()

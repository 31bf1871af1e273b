"""Section 12 of the document: photographs, laps and gains."""

import itertools
import random
import unittest

from ringwalkers.errors import BadMany, BadPath, BadStand
from ringwalkers.paths import Path, is_stand
from ringwalkers.photos import (
    are_gains, is_photo, laps_of, overtakings_of, photo_of, photo_turned, stand_of_laps)
from ringwalkers.refusals import BadGains, BadLaps, BadPhoto
from ringwalkers.shortestruns import fewest

from tests import slowly
from tests.anything import ANYTHING
from tests.told import ToldCase

ABC = Path(["a", "b", "c"])
STAND = {"a": 4, "b": 0, "c": -1}
NO_PHOTOS = [["a", "b"], ["a", "b", "b"], ["a", "b", "d"], ["a", "b", "c", "a"], ["a", "b", None], ["a", "b", ["c"]],
             "abc", {"a": 0, "b": 1, "c": 2}, [], None, 3, [0, 1, 2], [("a", "b", "c")], {"a", "b"}]


def with_photo(photo):
    """The near stand with this photo: each one's place is the rest."""
    return {name: photo.index(name) for name in sorted(photo)}


def is_right(thing):
    return thing in (["a", "b", "c"], ("a", "b", "c"))


class Photos(ToldCase):
    def test_near_stands(self):
        for names, near in slowly.small_paths():
            path = Path(names)
            for walked in near:
                photo = photo_of(path, walked.places)
                self.assertEqual([walked.places[name] % len(names) for name in photo], list(range(len(names))))
                self.assertTold(is_photo(path, photo), True)
                laps = laps_of(path, walked.places)
                self.assertEqual(list(laps), names)
                for name in names:
                    self.assertEqual(laps[name] * len(names) + photo.index(name), walked.places[name])
                self.assertTold(stand_of_laps(path, photo, laps), walked.places)

    def test_all_laps(self):
        for many in (2, 3):
            names = slowly.names_of(many)
            path = Path(names)
            for photo in itertools.permutations(names):
                for laps in itertools.product(range(-2, 3), repeat=many):
                    laps = dict(zip(names, laps))
                    stand = stand_of_laps(path, list(photo), laps)
                    self.assertEqual(stand is None, sum(laps.values()) != 0)
                    if stand is not None:
                        self.assertTold(is_stand(path, stand), True)
                        self.assertTold(photo_of(path, stand), list(photo))
                        self.assertTold(laps_of(path, stand), laps)

    def test_great_laps(self):
        names = slowly.many_names(20)
        path = Path(names)
        laps = {name: (-1) ** index * (10 ** 17 + index // 2) for index, name in enumerate(names)}
        photo = names[7:] + names[:7]
        stand = stand_of_laps(path, photo, laps)
        self.assertEqual(stand, {name: laps[name] * 20 + photo.index(name) for name in names})
        self.assertTold(laps_of(path, stand), laps)
        self.assertTold(photo_of(path, stand), photo)
        laps[names[3]] += 1
        self.assertTold(stand_of_laps(path, photo, laps), None)

    def test_any_object(self):
        for many in (2, 3):
            names = slowly.names_of(many)
            for row in itertools.product(names + ["z"], repeat=many):
                expected = sorted(row) == sorted(names)
                self.assertTold(is_photo(Path(names), list(row)), expected)
                self.assertTold(is_photo(Path(names), row), expected)
        for thing in NO_PHOTOS + ANYTHING:
            self.assertTold(is_photo(ABC, thing), is_right(thing))

    def test_turned(self):
        for photo in itertools.permutations("abcd"):
            path = Path(["a", "b", "c", "d"])
            for many in range(4):
                self.assertTold(photo_turned(path, photo, many), [photo[(many + k) % 4] for k in range(4)])

    def test_wrong_ones(self):
        laps = {"a": 1, "b": 0, "c": -1}
        for thing in NO_PHOTOS + [thing for thing in ANYTHING if not is_right(thing)]:
            self.assertRefused(BadPhoto, {"photo": thing}, stand_of_laps, ABC, thing, None)
            self.assertRefused(BadPhoto, {"photo": thing}, photo_turned, ABC, thing, None)
            self.assertRefused(BadPhoto, {"photo": thing}, are_gains, ABC, thing, None, None)
            self.assertRefused(BadPhoto, {"photo": thing}, are_gains, ABC, ["c", "b", "a"], thing, None)
            self.assertRefused(BadPhoto, {"photo": thing}, overtakings_of, ABC, thing, None)
        for thing in [{"a": 1, "b": 0}, {"a": 1, "b": 0, "c": True}, {"a": 1, "b": 0, "c": None}, [1, 0, -1], 0, 1,
                      {"a": 1, "b": 0, "d": -1}, {**laps, "d": 0}] + ANYTHING:
            self.assertRefused(BadLaps, {"laps": thing}, stand_of_laps, ABC, ["a", "b", "c"], thing)
        for thing in (3, 4, -1, True, None, "1", [1], 10 ** 30):
            self.assertRefused(BadMany, {"many": thing}, photo_turned, ABC, ["a", "b", "c"], thing)
        for work in (photo_of, laps_of):
            self.assertRefused(BadStand, {"stand": laps}, work, ABC, laps)
            self.assertRefused(BadPath, {"thing": None}, work, None, None)
        self.assertRefused(BadPath, {"thing": None}, is_photo, None, None)


class Gains(ToldCase):
    def test_near_stands(self):
        for many, depth in ((2, 6), (3, 6), (4, 4), (5, 3)):
            names = slowly.names_of(many)
            path = Path(names)
            for photo in list(itertools.permutations(names))[::max(1, many * 4 - 11)]:
                begin = {name: photo.index(name) for name in names}
                for walked in slowly.explore(names, depth, begin).values():
                    gains = {name: walked.places[name] - begin[name] for name in names}
                    later = photo_of(path, walked.places)
                    self.assertTold(overtakings_of(path, photo, gains), walked.distance)
                    self.assertTold(are_gains(path, photo, later, gains), True)
                    other = later[1:] + later[:1]
                    self.assertTold(are_gains(path, photo, other, gains), False)

    def test_all_small_gains(self):
        for many in (2, 3):
            names = slowly.names_of(many)
            path = Path(names)
            for photo, later in itertools.product(itertools.permutations(names), repeat=2):
                for gains in itertools.product(range(-4, 5), repeat=many):
                    fits = sum(gains) == 0 and all((photo.index(name) + gain - later.index(name)) % many == 0
                                                   for name, gain in zip(names, gains))
                    self.assertTold(are_gains(path, photo, later, dict(zip(names, gains))), fits)

    def test_gains_to_no_photo(self):
        for many in (2, 3, 4):
            names = slowly.names_of(many)
            path = Path(names)
            photo = names[::-1]
            for gains in itertools.product(range(-3, 4), repeat=many):
                told = dict(zip(names, gains))
                rests = {(photo.index(name) + told[name]) % many for name in names}
                if sum(gains) != 0 or len(rests) < many:
                    self.assertRefused(BadGains, {"gains": told}, overtakings_of, path, photo, told)
                else:
                    begin = {name: photo.index(name) for name in names}
                    end = {name: begin[name] + told[name] for name in names}
                    self.assertTold(overtakings_of(path, photo, told), fewest(path, begin, end))

    def test_from_each_stand_with_the_photo(self):
        chance = random.Random(1)
        names = slowly.many_names(20)
        path = Path(names)
        for far in (1, 10 ** 17):
            stands = [slowly.far_stand(names, [0] + [chance.randint(-far, far) for _ in names[1:]]) for _ in range(4)]
            later = stands[3]
            gains = {name: later[name] - stands[0][name] for name in names}
            for stand in stands[:3]:
                goal = {name: stand[name] + gains[name] for name in names}
                self.assertTold(overtakings_of(path, photo_of(path, stand), gains), fewest(path, stand, goal))

    def test_wrong_gains(self):
        photo = ["a", "b", "c"]
        for thing in [{"a": 1, "b": 0, "c": -1}, {"a": 1, "b": 1, "c": 1}, {"a": 3, "b": 0, "c": 0}, {"a": 0, "b": 0},
                      {"a": True, "b": -1, "c": 0}, {"a": 1, "b": -1, "d": 0}, [1, -1, 0], None] + ANYTHING:
            self.assertRefused(BadGains, {"gains": thing}, overtakings_of, ABC, photo, thing)
            self.assertTold(are_gains(ABC, photo, photo, thing), False)
        self.assertTold(overtakings_of(ABC, photo, {"a": 0, "b": 0, "c": 0}), 0)
        self.assertTold(are_gains(ABC, photo, photo, {"a": 10 ** 17 * 3, "b": -3 * 10 ** 17, "c": 0}), True)
        self.assertTold(overtakings_of(ABC, photo, {"a": 10 ** 17 * 3, "b": -3 * 10 ** 17, "c": 0}), 4 * 10 ** 17)


class Example(ToldCase):
    def test_the_documents(self):
        photo = ["a", "b", "c"]
        later = ["c", "b", "a"]
        self.assertTold(are_gains(ABC, photo, later, {"a": 2, "b": 0, "c": -2}), True)
        self.assertTold(overtakings_of(ABC, photo, {"a": 2, "b": 0, "c": -2}), 3)
        self.assertTold(overtakings_of(ABC, photo, {"a": -1, "b": 0, "c": 1}), 1)
        for gains in ((2, -1, -1), (-1, 2, -1), (-1, -1, 2)):
            self.assertTold(overtakings_of(ABC, photo, dict(zip("abc", gains))), 2)
            self.assertTold(are_gains(ABC, photo, ["b", "c", "a"], dict(zip("abc", gains))), True)


if __name__ == "__main__":
    unittest.main()

"""Section 12 of the document: the fewest overtakings from photo to photo."""

import itertools
import random
import unittest

from ringwalkers.errors import BadMany, BadPath
from ringwalkers.fewbetween import (
    can_be_between, count_fewest, fewest_between, fewest_gains, fewest_through, fewest_turned, perhaps_between,
    surely_between)
from ringwalkers.paths import Path
from ringwalkers.photos import are_gains, overtakings_of
from ringwalkers.refusals import BadPhoto, BadPhotos

from tests import slowly
from tests.anything import ANYTHING
from tests.test_photos import NO_PHOTOS, is_right
from tests.told import ToldCase

ABC = Path(["a", "b", "c"])
PHOTO = ["a", "b", "c"]
LATER = ["c", "b", "a"]
BAD_PHOTO = ["a", "b", "a"]


def near_photos():
    """Photos of small paths with all photos come to from them, each with the nearest stands that have it."""
    for many, depth, share in ((2, 3, 1), (3, 4, 1), (4, 5, 5), (5, 7, 60)):
        names = slowly.names_of(many)
        for photo in list(itertools.permutations(names))[::share]:
            begin = {name: photo.index(name) for name in names}
            nearest = {}
            for walked in slowly.explore(names, depth, begin).values():
                later = tuple(sorted(names, key=lambda name: walked.places[name] % many))
                if not nearest.get(later) or nearest[later][0].distance == walked.distance:
                    nearest.setdefault(later, []).append(walked)
            assert len(nearest) == len(list(itertools.permutations(names)))
            yield names, photo, begin, nearest


def swaps(photo):
    """All photos one overtaking off."""
    many = len(photo)
    for place in range(many):
        behind = list(photo)
        ahead = (place + 1) % many
        behind[place], behind[ahead] = behind[ahead], behind[place]
        yield tuple(behind)


class Fewest(ToldCase):
    def test_near_photos(self):
        for names, photo, begin, nearest in near_photos():
            path = Path(names)
            for later, found in nearest.items():
                self.assertTold(fewest_between(path, photo, later), found[0].distance)
                self.assertTold(fewest_between(path, list(photo), list(later)), found[0].distance)
                all_gains = [{name: walked.places[name] - begin[name] for name in names} for walked in found]
                told = fewest_gains(path, photo, later)
                self.assertEqual(list(told), names)
                self.assertIn(told, all_gains)
                self.assertTold(count_fewest(path, photo, later), len(found))
                spread = {max(gains.values()) - min(gains.values()) for gains in all_gains}
                self.assertLessEqual(max(spread), len(names))
                self.assertTrue(len(found) == 1 or spread == {len(names)})

    def test_surely_and_perhaps(self):
        for names, photo, _, nearest in near_photos():
            path = Path(names)
            for later, found in nearest.items():
                pairs = slowly.all_pairs(names)
                surely = [pair for pair in pairs if all(walked.nets[pair] > 0 for walked in found)]
                perhaps = [pair for pair in pairs if any(walked.nets[pair] > 0 for walked in found)]
                self.assertTold(surely_between(path, photo, later), surely)
                self.assertTold(perhaps_between(path, photo, later), perhaps)
                self.assertFalse(any((other, one) in perhaps for one, other in surely))

    def test_gains_need_the_fewest_just_if_they_are_not_far_apart(self):
        names = slowly.names_of(3)
        path = Path(names)
        for photo, later in itertools.product(itertools.permutations(names), repeat=2):
            number = fewest_between(path, photo, later)
            for gains in itertools.product(range(-6, 7), repeat=3):
                told = dict(zip(names, gains))
                if are_gains(path, photo, later, told):
                    needed = overtakings_of(path, photo, told)
                    self.assertGreaterEqual(needed, number)
                    self.assertEqual(needed == number, max(gains) - min(gains) <= 3)

    def test_many_walkers(self):
        chance = random.Random(4)
        names = slowly.many_names(20)
        path = Path(names)
        counts = []
        for turn in range(40):
            photo, later = names[:], names[:]
            chance.shuffle(photo)
            if turn % 2:
                chance.shuffle(later)
            else:
                later = photo[turn // 4:] + photo[:turn // 4]
            number = fewest_between(path, photo, later)
            gains = fewest_gains(path, photo, later)
            self.assertTold(are_gains(path, photo, later, gains), True)
            self.assertTold(overtakings_of(path, photo, gains), number)
            apart = max(gains.values()) - min(gains.values())
            self.assertLessEqual(apart, 20)
            counts.append(self.check_count(names, photo, later, gains))
            for _ in range(10):
                one, other = chance.sample(names, 2)
                further = dict(gains)
                further[one] += 20
                further[other] -= 20
                needed = overtakings_of(path, photo, further)
                self.assertGreaterEqual(needed, number)
                same = max(further.values()) - min(further.values()) <= 20
                self.assertEqual(needed == number, same)
        self.assertGreater(max(counts), 1000)

    def check_count(self, names, photo, later, gains):
        greatest, least = max(gains.values()), min(gains.values())
        high = [gain for gain in gains.values() if gain == greatest]
        low = [gain for gain in gains.values() if gain == least]
        expected = 1
        if greatest - least == len(names):
            expected = slowly.choose(len(high) + len(low), len(low))
        self.assertTold(count_fewest(Path(names), photo, later), expected)
        surely = surely_between(Path(names), photo, later)
        perhaps = perhaps_between(Path(names), photo, later)
        self.assertTrue(all(pair in perhaps for pair in surely))
        self.assertFalse(any((other, one) in perhaps for one, other in surely))
        self.assertEqual(expected == 1, surely == perhaps)
        return expected

    def test_all_one_on(self):
        names = slowly.many_names(20)
        path = Path(names)
        later = names[-1:] + names[:-1]
        # Each one's place grows by one, but somebody's falls by 19.
        self.assertTold(fewest_between(path, names, later), 19)
        self.assertTold(count_fewest(path, names, later), 20)
        self.assertTold(surely_between(path, names, later), [])
        self.assertTold(perhaps_between(path, names, later), slowly.all_pairs(names))
        self.assertTold(fewest_turned(path, names, later), (0, 1))


class EvenOrOdd(ToldCase):
    def test_near_photos(self):
        for many in (2, 3, 4):
            names = slowly.names_of(many)
            path = Path(names)
            reached = {tuple(names)}
            for number in range(9):
                for later in itertools.permutations(names):
                    self.assertTold(can_be_between(path, names, later, number), later in reached)
                reached = {behind for photo in reached for behind in swaps(photo)}

    def test_great_ones(self):
        for many in (10 ** 30, 10 ** 30 + 1):
            self.assertTold(can_be_between(ABC, PHOTO, LATER, many), many % 2 == 1)
            self.assertTold(can_be_between(ABC, PHOTO, PHOTO, many), many % 2 == 0)

    def test_no_number(self):
        for thing in (-1, True, False, None, "1", [1], {"a": 1}):
            self.assertRefused(BadMany, {"many": thing}, can_be_between, ABC, PHOTO, LATER, thing)
            self.assertRefused(BadPhoto, {"photo": thing}, can_be_between, ABC, PHOTO, thing, thing)


class Turned(ToldCase):
    def test_near_photos(self):
        for names, photo, _, nearest in near_photos():
            path = Path(names)
            for later in nearest:
                turns = [later[many:] + later[:many] for many in range(len(names))]
                numbers = [nearest[turn][0].distance for turn in turns]
                expected = (min(numbers), numbers.index(min(numbers)))
                self.assertTold(fewest_turned(path, photo, list(later)), expected)

    def test_many_walkers(self):
        names = slowly.many_names(20)
        photo = names[::2] + names[1::2]
        self.assertTold(fewest_turned(Path(names), photo, photo[13:] + photo[:13]), (0, 7))
        self.assertTold(fewest_turned(Path(names), photo, photo), (0, 0))


class Through(ToldCase):
    def test_near_photos(self):
        chance = random.Random(2)
        for names, photo, _, nearest in near_photos():
            path = Path(names)
            later = chance.choice(list(nearest))
            self.assertTold(fewest_through(path, [photo]), 0)
            self.assertTold(fewest_through(path, [photo, later]), nearest[later][0].distance)
            self.assertTold(fewest_through(path, (photo, later, later, photo)),
                            nearest[later][0].distance + fewest_between(path, later, photo))

    def test_a_hundred(self):
        names = slowly.many_names(20)
        photos = [names[turn % 20:] + names[:turn % 20] for turn in range(101)]
        self.assertTold(fewest_through(Path(names), photos), 100 * 19)

    def test_wrong_ones(self):
        for thing in ([], (), None, 3, "abc", {}, {0: PHOTO}, True, ABC):
            self.assertRefused(BadPhotos, {"index": 0}, fewest_through, ABC, thing)
        self.assertRefused(BadPhotos, {"index": 0}, fewest_through, ABC, PHOTO)
        for thing in NO_PHOTOS + [thing for thing in ANYTHING if not is_right(thing)]:
            self.assertRefused(BadPhotos, {"index": 2}, fewest_through, ABC, [PHOTO, tuple(LATER), thing, thing])
            self.assertRefused(BadPhotos, {"index": 0}, fewest_through, ABC, (thing, PHOTO))
        self.assertRefused(BadPath, {"thing": None}, fewest_through, None, [])


class Wrong(ToldCase):
    def test_wrong_photos(self):
        works = [fewest_between, fewest_gains, count_fewest, surely_between, perhaps_between, fewest_turned,
                 lambda path, photo, later: can_be_between(path, photo, later, -1)]
        for work in works:
            for thing in NO_PHOTOS + [thing for thing in ANYTHING if not is_right(thing)]:
                self.assertRefused(BadPhoto, {"photo": thing}, work, ABC, thing, BAD_PHOTO)
                self.assertRefused(BadPhoto, {"photo": thing}, work, ABC, thing, LATER)
                self.assertRefused(BadPhoto, {"photo": thing}, work, ABC, LATER, thing)
            self.assertRefused(BadPath, {"thing": PHOTO}, work, PHOTO, None, None)


class Example(ToldCase):
    def test_the_documents(self):
        self.assertTold(fewest_between(ABC, PHOTO, LATER), 1)
        self.assertTold(fewest_gains(ABC, PHOTO, LATER), {"a": -1, "b": 0, "c": 1})
        self.assertTold(surely_between(ABC, PHOTO, LATER), [("c", "a")])
        self.assertTold(fewest_between(ABC, PHOTO, ["b", "c", "a"]), 2)
        self.assertTold(count_fewest(ABC, PHOTO, ["b", "c", "a"]), 3)
        self.assertTold(surely_between(ABC, PHOTO, ["b", "c", "a"]), [])
        self.assertTold(perhaps_between(ABC, PHOTO, ["b", "c", "a"]), slowly.all_pairs("abc"))
        self.assertTold(fewest_turned(ABC, PHOTO, ["b", "c", "a"]), (0, 2))
        self.assertTold(fewest_through(ABC, [PHOTO, LATER, PHOTO]), 2)


if __name__ == "__main__":
    unittest.main()

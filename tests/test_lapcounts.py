"""Section 17 of the document: stands within so many laps counted and listed, the busiest of them."""

import functools
import itertools
import unittest

from ringwalkers.errors import BadPath
from ringwalkers.lapcounts import busiest, count_just, count_within, last_within, most_within, stands_within
from ringwalkers.laps import is_within, may_overtake, most_laps
from ringwalkers.paths import Path, is_stand
from ringwalkers.refusals import BadLaps
from ringwalkers.tables import in_all

from tests import slowly
from tests.anything import ANYTHING
from tests.told import ToldCase

ABC = Path(["a", "b", "c"])
# Walkers, laps, and how many overtakings a stand within can have at most, and some more.
SMALL = [(2, 0, 3), (2, 1, 3), (2, 3, 6), (3, 0, 3), (3, 1, 6), (3, 2, 9), (3, 3, 11), (4, 1, 9), (4, 2, 13),
         (5, 1, 12)]


@functools.lru_cache(maxsize=None)
def within(many, laps, depth):
    """All stands within laps, in the order of their places."""
    near = slowly.explore(slowly.names_of(many), depth).values()
    found = [walked for walked in near if max(walked.nets.values()) <= laps]
    if max(walked.distance for walked in found) >= depth:
        raise AssertionError("there may be more stands within, farther off")
    return sorted(found, key=lambda walked: slowly.key(walked.places))


def last_ones(stands, laps):
    """Those from which each next overtaking leads beyond, or takes one back."""
    return [walked for walked in stands
            if not any(0 <= walked.nets[pair] < laps for pair in slowly.moves(walked.places))]


def rows_with_marks(names, laps):
    """In how many ways the names are put into rows, none empty, with one of laps marks between each two neighbours."""
    rows = {0: 1}
    for met in range(len(names)):
        behind = {}
        for many, known in rows.items():
            # A row of its own; or into a row: as its first one, or right behind one of those met, with one mark more.
            behind[many + 1] = behind.get(many + 1, 0) + known
            behind[many] = behind.get(many, 0) + known * (many + met) * laps
        rows = behind
    return sum(rows.values())


class Counted(ToldCase):
    def test_small_paths(self):
        for many, laps, depth in SMALL:
            path = Path(slowly.names_of(many))
            stands = within(many, laps, depth)
            self.assertTold(count_within(path, laps), len(stands))
            just = [walked for walked in stands if max(walked.nets.values()) == laps]
            self.assertTold(count_just(path, laps), len(just))

    def test_rows_with_marks(self):
        for many in (2, 3, 7, 19, 20):
            names = slowly.many_names(many)
            path = Path(names)
            for laps in (0, 1, 2, 9, 10 ** 16, 10 ** 17 + 3):
                self.assertTold(count_within(path, laps), rows_with_marks(names, laps))
                less = rows_with_marks(names, laps - 1) if laps else 0
                self.assertTold(count_just(path, laps), rows_with_marks(names, laps) - less)

    def test_all_of_them(self):
        for many, laps, depth in SMALL:
            path = Path(slowly.names_of(many))
            stands = within(many, laps, depth)
            self.assertTold(stands_within(path, laps), [walked.places for walked in stands])
            last = last_ones(stands, laps)
            self.assertTold(last_within(path, laps), [walked.places for walked in last])
            self.assertGreater(len(last), 0)

    def test_five_walkers_two_laps(self):
        path = Path(slowly.names_of(5))
        told = stands_within(path, 2)
        self.assertTold(len(told), count_within(path, 2))
        keys = [slowly.key(stand) for stand in told]
        self.assertEqual(keys, sorted(set(keys)))
        for stand in told:
            self.assertTrue(is_stand(path, stand) and most_laps(path, stand) <= 2)
        last = [stand for stand in told if may_overtake(path, stand, 2) == []]
        self.assertTold(last_within(path, 2), last)


class Busiest(ToldCase):
    def test_small_paths(self):
        for many, laps, depth in SMALL:
            path = Path(slowly.names_of(many))
            most = max(slowly.total(walked) for walked in within(many, laps, depth))
            self.assertTold(most_within(path, laps), most)
            self.check(path, laps)

    def check(self, path, laps):
        told = busiest(path, laps)
        self.assertEqual(list(told), path.walkers())
        self.assertTrue(is_stand(path, told))
        self.assertTrue(is_within(path, told, laps))
        self.assertTold(in_all(path, told), most_within(path, laps))
        self.assertTold(busiest(Path(path.walkers()), laps), told)

    def test_far_ones(self):
        for many, laps in itertools.product((2, 3, 4, 19, 20), (0, 1, 2, 10 ** 16, 10 ** 20)):
            names = slowly.many_names(many)
            half = many // 2
            self.check(Path(names), laps)
            inner = [pair for part in (names[:half], names[half:]) for pair in itertools.combinations(part, 2)]
            expected = half * (many - half) * laps + len(inner) if laps else 0
            self.assertTold(most_within(Path(names), laps), expected)


class Wrong(ToldCase):
    def test_laps(self):
        for work in (count_within, count_just, stands_within, last_within, most_within, busiest):
            for thing in ANYTHING:
                if isinstance(thing, bool) or not isinstance(thing, int) or thing < 0:
                    self.assertRefused(BadLaps, {"laps": thing}, work, ABC, thing)
            self.assertRefused(BadPath, {"thing": None}, work, None, None)


class Example(ToldCase):
    def test_the_documents(self):
        self.assertEqual([count_within(ABC, laps) for laps in range(4)], [1, 13, 37, 73])
        four = Path(["a", "b", "c", "d"])
        self.assertEqual([count_within(four, laps) for laps in (1, 2)], [73, 361])
        self.assertTold(most_within(ABC, 2), 5)
        self.assertTold(in_all(ABC, busiest(ABC, 2)), 5)
        self.assertTold(in_all(ABC, {"a": -4, "b": 4, "c": 3}), 5)
        self.assertIn({"a": -4, "b": 4, "c": 3}, stands_within(ABC, 2))


if __name__ == "__main__":
    unittest.main()

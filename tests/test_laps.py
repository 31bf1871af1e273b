"""Section 17 of the document: stands within so many laps, leads, who may overtake."""

import unittest

from ringwalkers.errors import BadStand
from ringwalkers.laps import first_beyond, is_within, leads, may_overtake, most_laps
from ringwalkers.paths import Path, first_stand
from ringwalkers.refusals import BadLaps, NotWithin

from tests import slowly
from tests.told import ToldCase

ABC = Path(["a", "b", "c"])
STAND = {"a": 4, "b": 0, "c": -1}
FIRST = {"a": 0, "b": 1, "c": 2}
NEAR = [(2, 6), (3, 8), (4, 6), (5, 3)]


def near_stands():
    for many, depth in NEAR:
        names = slowly.names_of(many)
        for walked in slowly.explore(names, depth).values():
            yield names, Path(names), walked


class Within(ToldCase):
    def test_the_overtakings_on_the_way(self):
        for names, path, walked in near_stands():
            most = max(walked.nets.values())
            self.assertTold(most_laps(path, walked.places), most)
            for laps in range(most + 3):
                beyond = slowly.by_path(names, [pair for pair in walked.nets if walked.nets[pair] > laps])
                self.assertTold(is_within(path, walked.places, laps), most <= laps)
                self.assertTold(first_beyond(path, walked.places, laps), beyond[0] if beyond else None)

    def test_leads_tell(self):
        for names, path, walked in near_stands():
            least = min(walked.places.values())
            told = leads(path, walked.places)
            self.assertTold(told, {name: walked.places[name] - least for name in names})
            many = len(names)
            for laps in range(1, 5):
                expected = all(lead < many * (laps + 1) for lead in told.values())
                for name in names:
                    for other in names:
                        if told[name] >= many * laps and told[other] <= told[name] - many * laps:
                            expected = expected and names.index(name) > names.index(other)
                self.assertEqual(is_within(path, walked.places, laps), expected)

    def test_on_a_shortest_run_all_are_within(self):
        for names, begun, walked, runs in slowly.near_pairs_with_runs():
            path = Path(names)
            laps = max(most_laps(path, begun.places), most_laps(path, walked.places))
            for stand in slowly.stands_on(begun.places, runs).values():
                self.assertTold(is_within(path, stand, laps), True)

    def test_far_ones(self):
        names = slowly.many_names(20)
        path = Path(names)
        laps = [0] + [(-1) ** index * (10 ** 16 + index) for index in range(19)]
        stand = slowly.far_stand(names, laps)
        laps[0] -= sum(laps)
        far = dict(zip(names, laps))
        most = max(laps) - min(laps)
        self.assertTold(most_laps(path, stand), most)
        self.assertTold(is_within(path, stand, most), True)
        self.assertTold(is_within(path, stand, most - 1), False)
        self.assertTold(is_within(path, stand, 10 ** 40), True)
        pairs = [(one, other) for one, other in slowly.all_pairs(names) if far[one] - far[other] == most]
        self.assertTold(first_beyond(path, stand, most - 1), slowly.by_path(names, pairs)[0])
        self.assertTold(first_beyond(path, stand, most), None)
        least = min(stand.values())
        self.assertTold(leads(path, dict(reversed(list(stand.items())))), {name: stand[name] - least for name in names})

    def test_wrong_laps(self):
        for thing in (-1, True, False, None, "1", [1], {"a": 1, "b": 1, "c": 1}, 1.0):
            for work in (is_within, first_beyond, may_overtake):
                self.assertRefused(BadLaps, {"laps": thing}, work, ABC, STAND, thing)
                none = {"a": 0, "b": 1, "c": 3}
                self.assertRefused(BadStand, {"stand": none}, work, ABC, none, thing)


class WhoMay(ToldCase):
    def test_near_stands(self):
        for names, path, walked in near_stands():
            most = max(walked.nets.values())
            for laps in range(most + 3):
                if most > laps:
                    self.assertRefused(NotWithin, {"stand": walked.places}, may_overtake, path, walked.places, laps)
                    continue
                expected = []
                for one, other in slowly.by_path(names, slowly.moves(walked.places)):
                    behind = slowly.gone(walked, one, other)
                    if max(behind.nets.values()) <= laps and slowly.total(behind) > slowly.total(walked):
                        expected.append((one, other))
                self.assertTold(may_overtake(path, walked.places, laps), expected)
                if laps > most:
                    self.assertNotEqual(expected, [])
            self.assertTrue(any(walked.nets[pair] >= 0 for pair in slowly.moves(walked.places)))

    def test_far_ones(self):
        self.assertTold(may_overtake(ABC, FIRST, 10 ** 16), [("a", "b"), ("b", "c"), ("c", "a")])
        stand = {"a": 3 * 10 ** 16, "b": 1 - 3 * 10 ** 16, "c": 2}
        self.assertTold(may_overtake(ABC, stand, 2 * 10 ** 16), [])
        self.assertTold(may_overtake(ABC, stand, 2 * 10 ** 16 + 1), [("a", "b")])
        self.assertRefused(NotWithin, {"stand": stand}, may_overtake, ABC, stand, 2 * 10 ** 16 - 1)

    def test_nothing_within_none(self):
        self.assertTold(may_overtake(ABC, FIRST, 0), [])
        self.assertTold(is_within(ABC, FIRST, 0), True)
        self.assertTold(first_beyond(ABC, FIRST, 0), None)
        self.assertTold(most_laps(ABC, FIRST), 0)


class Example(ToldCase):
    def test_the_documents(self):
        self.assertTold(most_laps(ABC, STAND), 2)
        self.assertTold(first_beyond(ABC, STAND, 1), ("a", "b"))
        self.assertTold(leads(ABC, STAND), {"a": 5, "b": 1, "c": 0})
        self.assertTold(may_overtake(ABC, first_stand(ABC), 1), [("a", "b"), ("b", "c"), ("c", "a")])
        for many, laps, count in ((3, 0, 1), (3, 1, 13), (3, 2, 37), (3, 3, 73), (4, 1, 73)):
            names = slowly.names_of(many)
            depth = laps * many * many // 4 + many
            near = slowly.explore(names, depth).values()
            self.assertEqual(len([walked for walked in near if is_within(Path(names), walked.places, laps)]), count)


if __name__ == "__main__":
    unittest.main()

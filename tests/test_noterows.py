"""Section 11 of the document: from notes to notes, one change after another."""

import random
import unittest

from ringwalkers.errors import BadMost, BadNotes, BadPath, NoWalker
from ringwalkers.notes import notes
from ringwalkers.noterows import change_shown, fewest_changes, next_changes, row_of_notes
from ringwalkers.paths import Path, right_ahead
from ringwalkers.shownotes import are_notes, notes_clash

from tests import slowly
from tests.anything import ANYTHING
from tests.told import ToldCase

ABC = Path(["a", "b", "c"])
PAIRS = slowly.all_pairs(["a", "b", "c"])


def noting(**told):
    return {pair: told.get("".join(pair), 0) for pair in PAIRS}


class Known:
    """All notes of a small path, and which ones are one change apart."""

    def __init__(self, many, most, depth):
        self.names = slowly.names_of(many)
        self.path = Path(self.names)
        self.most = most
        self.pairs = slowly.all_pairs(self.names)
        self.shown = slowly.stands_by_notes(many, most, depth)
        self.next_ones = {told: self.next_to(told) for told in self.shown}

    def notes(self, told):
        return slowly.notes_of(self.names, told)

    def next_to(self, told):
        """All known notes one change off, by the pair that noted one more, less what the turned pair did."""
        found = {}
        for one, other in self.pairs:
            changed = self.notes(told)
            if changed[other, one] > 0:
                changed[other, one] -= 1
            else:
                changed[one, other] += 1
            key = tuple(changed.values())
            if key in self.shown:
                found[one, other] = key
        return found

    def distances(self, told):
        """How many changes lead to all known notes."""
        found = {told: 0}
        level = [told]
        while level:
            level = [key for each in level for key in self.next_ones[each].values() if self.is_new(found, key, each)]
        return found

    def is_new(self, found, key, behind):
        if key in found:
            return False
        found[key] = found[behind] + 1
        return True


def known():
    return [Known(many, most, depth) for many, most, depth, _ in slowly.NOTED]


class Changes(ToldCase):
    def test_all_notes(self):
        for each in known():
            chance = random.Random(2)
            begins = list(each.shown) if len(each.shown) < 60 else chance.sample(list(each.shown), 25)
            for told in begins:
                distances = each.distances(told)
                self.assertEqual(len(distances), len(each.shown))
                for later in each.shown:
                    number = fewest_changes(each.path, each.notes(told), each.notes(later), each.most)
                    self.assertTold(number, distances[later])
                    self.check_row(each, told, later, number)

    def check_row(self, each, told, later, number):
        row = row_of_notes(each.path, each.notes(told), each.notes(later), each.most)
        self.assertEqual(len(row), number + 1)
        self.assertTold(row[0], each.notes(told))
        self.assertTold(row[-1], each.notes(later))
        keys = [tuple(between.values()) for between in row]
        for key, next_key in zip(keys, keys[1:]):
            self.assertIn(next_key, each.next_ones[key].values())
        for between in row:
            self.assertEqual(list(between), each.pairs)

    def test_many_walkers(self):
        chance = random.Random(6)
        for many, most, far in ((20, 1, 1), (20, 10 ** 6, 2), (20, 3, 2), (8, 10 ** 6, 9), (2, 10 ** 6, 100)):
            names = slowly.many_names(many)
            path = Path(names)
            told, later = [notes(path, slowly.far_stand(names, [0] + [chance.randint(-far, far) for _ in names[1:]]),
                                 most) for _ in range(2)]
            number = sum(abs(told[one, other] - told[other, one] - later[one, other] + later[other, one])
                         for one, other in slowly.all_pairs(names)) // 2
            self.assertTold(fewest_changes(path, told, later, most), number)
            row = row_of_notes(path, told, later, most)
            self.assertEqual(len(row), number + 1)
            self.assertTold(row[0], told)
            self.assertTold(row[-1], later)
            for now, behind in zip(row, row[1:]):
                self.assertEqual(sum(abs(now[pair] - behind[pair]) for pair in now), 1)
            for between in row[::max(1, number // 9)]:
                self.assertTold(are_notes(path, between, most), True)

    def test_far_apart(self):
        names = slowly.many_names(20)
        path = Path(names)
        most = 10 ** 6
        told, later = [{(one, other): most if order.index(one) > order.index(other) else 0
                        for one, other in slowly.all_pairs(names)} for order in (names, names[::-1])]
        self.assertTold(fewest_changes(path, told, later, most), 190 * 2 * most)
        self.assertTold(fewest_changes(path, told, dict(told), most), 0)
        self.assertTold(row_of_notes(path, told, dict(told), most), [told])

    def test_the_same_row_each_time(self):
        told, later = noting(ab=2, ac=2, bc=2), noting(ba=1, ca=2, cb=1)
        row = row_of_notes(ABC, told, later, 2)
        turned = [dict(reversed(list(each.items()))) for each in (told, later)]
        self.assertTold(row_of_notes(Path(("a", "b", "c")), *turned, 2), row)


class Next(ToldCase):
    def test_all_notes(self):
        for each in known():
            for told, shown in each.shown.items():
                expected = slowly.by_path(each.names, each.next_ones[told])
                self.assertTold(next_changes(each.path, each.notes(told), each.most), expected)
                for one in each.names:
                    for other in each.names:
                        self.check_shown(each, told, one, other, (one, other) in expected)

    def check_shown(self, each, told, one, other, is_shown):
        stand = change_shown(each.path, each.notes(told), each.most, one, other)
        self.assertEqual(stand is not None, is_shown)
        if is_shown:
            self.assertEqual(list(stand), each.names)
            self.assertTold(notes(each.path, stand, each.most), each.notes(told))
            self.assertIn((one, other), slowly.moves(stand))
            behind = notes(each.path, slowly.moved(stand, one, other), each.most)
            self.assertEqual(tuple(behind.values()), each.next_ones[told][one, other])

    def test_what_near_stands_show(self):
        for each in known():
            for told, shown in each.shown.items():
                changes = next_changes(each.path, each.notes(told), each.most)
                for walked in shown:
                    for one, other in slowly.moves(walked.places):
                        behind = slowly.gone(walked, one, other)
                        is_change = slowly.noted_pairs(behind, each.most) != told
                        if is_change:
                            self.assertIn((one, other), changes)

    def test_many_walkers(self):
        chance = random.Random(7)
        for many, most, far in ((20, 1, 1), (20, 10 ** 6, 2), (20, 10 ** 6, 5 * 10 ** 5), (20, 3, 10 ** 17),
                                (2, 10 ** 6, 10 ** 6), (12, 10 ** 9, 10 ** 9)):
            names = slowly.many_names(many)
            path = Path(names)
            told = notes(path, slowly.far_stand(names, [0] + [chance.randint(-far, far) for _ in names[1:]]), most)
            changes = next_changes(path, told, most)
            self.assertNotEqual(changes, [])
            for one, other in slowly.all_pairs(names)[::5] + changes[:9]:
                stand = change_shown(path, told, most, one, other)
                changed = dict(told)
                if changed[other, one] > 0:
                    changed[other, one] -= 1
                else:
                    changed[one, other] += 1
                may = changed[one, other] <= most and notes_clash(path, changed, most) is None
                self.assertEqual((one, other) in changes, may)
                self.assertEqual(stand is not None, may)
                if may:
                    self.assertTold(notes(path, stand, most), told)
                    self.assertEqual(right_ahead(path, stand, one), other)
                    self.assertTold(notes(path, slowly.moved(stand, one, other), most), changed)


class Wrong(ToldCase):
    CLASHING = noting(ab=2, ac=2)

    def works(self):
        right = noting(ab=1)
        yield lambda path, told, most: fewest_changes(path, told, None, most)
        yield lambda path, told, most: row_of_notes(path, told, None, most)
        yield lambda path, told, most: fewest_changes(path, right, told, most)
        yield lambda path, told, most: row_of_notes(path, right, told, most)
        yield next_changes
        yield lambda path, told, most: change_shown(path, told, most, None, None)

    def test_wrong_notes(self):
        both = noting(ab=1, ba=1)
        three = noting(ab=2, bc=2)
        for work in self.works():
            for thing in [both, three, noting(ab=3), noting(ab=-1), noting(ab=True), {}, None] + ANYTHING:
                self.assertRefused(BadNotes, {"notes": thing}, work, ABC, thing, 2)

    def test_wrong_most(self):
        for work in self.works():
            for thing in (0, -1, True, None, "1", [1]):
                self.assertRefused(BadMost, {"most": thing}, work, ABC, None, thing)
            self.assertRefused(BadPath, {"thing": None}, work, None, None, None)

    def test_wrong_walkers(self):
        right = noting(ab=1)
        for thing in ANYTHING:
            if thing not in ("a", "b"):
                self.assertRefused(NoWalker, {"walker": thing}, change_shown, ABC, right, 2, thing, None)
                self.assertRefused(NoWalker, {"walker": thing}, change_shown, ABC, right, 2, "a", thing)


class Example(ToldCase):
    def test_the_documents_notes(self):
        told = noting(ab=1, ac=2, bc=1)
        self.assertTold(next_changes(ABC, told, 2), [("a", "b"), ("b", "c"), ("c", "a")])
        self.assertTold(change_shown(ABC, told, 2, "a", "b"), {"a": 3, "b": 1, "c": -1})
        self.assertTold(change_shown(ABC, told, 2, "b", "a"), None)
        later = noting(ab=2, ac=1, cb=1)
        self.assertTold(fewest_changes(ABC, told, later, 2), 4)


if __name__ == "__main__":
    unittest.main()

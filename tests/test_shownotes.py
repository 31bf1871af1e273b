"""Section 11 of the document: which stands show notes."""

import itertools
import random
import unittest

from ringwalkers.capped import least_stand
from ringwalkers.commons import is_earlier
from ringwalkers.errors import BadMost, BadNotes, BadPath, NoWalker
from ringwalkers.notes import noted, notes
from ringwalkers.paths import Path, first_stand, net
from ringwalkers.shownotes import (
    are_notes, count_ended, free_lot, groups, last_stand, net_span, notes_clash, stands_showing)
from ringwalkers.tables import in_all, of_some

from tests import slowly
from tests.anything import ANYTHING
from tests.told import ToldCase

ABC = Path(["a", "b", "c"])
PAIRS = slowly.all_pairs(["a", "b", "c"])


def noting(**told):
    """Notes of a, b and c: ab=1 is that a noted b once."""
    return {pair: told.get("".join(pair), 0) for pair in PAIRS}


def known_notes():
    """All notes of small paths that some stand shows, with the near stands that do, and how far all last ones are."""
    for many, most, depth, farthest in slowly.NOTED:
        names = slowly.names_of(many)
        for pairs_noted, shown in slowly.stands_by_notes(many, most, depth).items():
            yield names, most, slowly.notes_of(names, pairs_noted), shown, shown[-1].distance <= farthest


def clash_of(names, told, most):
    """The first clash, going through all nets that may be noted so."""
    for one, other in itertools.combinations(names, 2):
        if told[one, other] > 0 and told[other, one] > 0:
            return ("both", one, other)
    for x, y, z in itertools.combinations(names, 3):
        ranges = []
        for one, other in ((x, y), (y, z), (x, z)):
            wanted = (told[one, other], told[other, one])
            ranges.append([each for each in range(-3 * most - 2, 3 * most + 3)
                           if (min(max(each, 0), most), min(max(-each, 0), most)) == wanted])
        if not any(xy + yz - xz in (0, 1) for xy, yz, xz in itertools.product(*ranges)):
            return ("three", x, y, z)
    return None


class Clashes(ToldCase):
    def test_all_notes_that_may_be_passed(self):
        for many, most in ((2, 1), (2, 2), (2, 3), (3, 1), (3, 2), (4, 1)):
            names = slowly.names_of(many)
            path = Path(names)
            depth = [each[2] for each in slowly.NOTED if each[:2] == (many, most)][0]
            known = slowly.stands_by_notes(many, most, depth)
            for pairs_noted in itertools.product(range(most + 1), repeat=many * (many - 1)):
                told = slowly.notes_of(names, pairs_noted)
                expected = clash_of(names, told, most)
                self.assertTold(notes_clash(path, told, most), expected)
                self.assertTold(are_notes(path, told, most), pairs_noted in known)
                self.assertEqual(expected is None, pairs_noted in known)
                if expected is not None:
                    self.check_refused(path, told, most)

    def check_refused(self, path, told, most):
        for work in (last_stand, free_lot, groups, stands_showing):
            self.assertRefused(BadNotes, {"notes": told}, work, path, told, most)
        self.assertRefused(BadNotes, {"notes": told}, net_span, path, told, most, "z", "z")

    def test_drawn_ones(self):
        chance = random.Random(3)
        names = slowly.names_of(5)
        for _ in range(300):
            most = chance.randint(1, 3)
            walk = {name: index for index, name in enumerate(names)}
            for _ in range(chance.randint(0, 40)):
                walk = slowly.moved(walk, *chance.choice(slowly.moves(walk)))
            told = notes(Path(names), walk, most)
            one, other = chance.choice(slowly.all_pairs(names))
            told[one, other] = chance.randint(0, most)
            self.assertTold(notes_clash(Path(names), told, most), clash_of(names, told, most))

    def test_no_notes(self):
        right = noting(ab=2, ac=1)
        wrongs = [noting(ab=3), noting(ab=-1), noting(ab=True), noting(ab=None), noting(ab="1"), {}, None, [],
                  {pair: right[pair] for pair in PAIRS[:-1]}, {**right, ("a", "d"): 0}, {**right, ("a", "a"): 0},
                  list(right.items()), {"".join(pair): 0 for pair in PAIRS}]
        for wrong in wrongs + ANYTHING:
            self.assertTold(are_notes(ABC, wrong, 2), False)
            for work in (notes_clash, last_stand, free_lot, groups, stands_showing):
                self.assertRefused(BadNotes, {"notes": wrong}, work, ABC, wrong, 2)
            self.assertRefused(BadNotes, {"notes": wrong}, net_span, ABC, wrong, 2, None, None)
        self.assertTold(are_notes(ABC, noting(ab=3, ac=2), 3), True)

    def test_most_goes_ahead_of_notes(self):
        for thing in (0, -1, True, None, "1", [1], len):
            for work in (notes_clash, last_stand, free_lot, groups, stands_showing, are_notes):
                self.assertRefused(BadMost, {"most": thing}, work, ABC, None, thing)
            self.assertRefused(BadMost, {"most": thing}, net_span, ABC, None, thing, None, None)
            self.assertRefused(BadMost, {"most": thing}, count_ended, ABC, thing)
        self.assertRefused(BadPath, {"thing": None}, notes_clash, None, None, None)
        self.assertRefused(BadPath, {"thing": None}, count_ended, None, None)


class Showing(ToldCase):
    def test_all_notes(self):
        for names, most, told, shown, is_ended in known_notes():
            path = Path(names)
            self.assertTold(are_notes(path, told, most), True)
            stands = stands_showing(path, told, most)
            last = last_stand(path, told, most)
            if not is_ended:
                self.assertIsNone(stands)
                self.assertIsNone(last)
                continue
            expected = sorted(shown, key=lambda walked: (walked.distance, list(walked.places.values())))
            self.assertTold(stands, [walked.places for walked in expected])
            self.assertTold(last, expected[-1].places)
            self.assertTold(stands[0], least_stand(path, slowly.sums_of(names, told), most))
            for walked in expected:
                self.assertTrue(is_earlier(path, walked.places, last))

    def test_spans(self):
        for names, most, told, shown, is_ended in known_notes():
            path = Path(names)
            for one, other in slowly.all_pairs(names):
                nets = sorted({walked.nets[one, other] for walked in shown})
                least, greatest = net_span(path, told, most, one, other)
                if is_ended:
                    self.assertTold((least, greatest), (nets[0], nets[-1]))
                    self.assertEqual(nets, list(range(nets[0], nets[-1] + 1)))
                if least is not None:
                    self.assertEqual(least, nets[0])
                if greatest is not None:
                    self.assertEqual(greatest, nets[-1])
                if told[one, other] < most:
                    self.assertEqual(greatest is None, self.goes_on(names, told, most, one, other))
                self.assertTold(net_span(path, told, most, one, one), (0, 0))

    def goes_on(self, names, told, most, one, other):
        """Whether some lot with one, but without other, noted all others most times."""
        rest = [name for name in names if name not in (one, other)]
        lots = [[one, *more] for size in range(len(rest) + 1) for more in itertools.combinations(rest, size)]
        return any(all(told[x, y] == most for x in lot for y in names if y not in lot) for lot in lots)

    def test_without_an_end(self):
        for names, most, told, shown, is_ended in known_notes():
            for one, other in slowly.all_pairs(names):
                least, greatest = net_span(Path(names), told, most, one, other)
                self.assertEqual(greatest is None, self.goes_on(names, told, most, one, other))
                self.assertEqual(least is None, self.goes_on(names, told, most, other, one))

    def test_five_walkers_and_most_3(self):
        chance = random.Random(9)
        names = slowly.names_of(5)
        path = Path(names)
        met = 0
        while met < 25:
            stand = slowly.far_stand(names, [0] + [chance.randint(-2, 2) for _ in range(4)])
            told = notes(path, stand, 3)
            stands = stands_showing(path, told, 3)
            if stands is None:
                continue
            met += 1
            self.assertIn(stand, stands)
            self.assertTrue(all(notes(path, each, 3) == told for each in stands))
            order = [(in_all(path, each), list(each.values())) for each in stands]
            self.assertEqual(order, sorted(order))
            # Each overtaking that leads to another stand with these notes leads to one of them.
            keys = {slowly.key(each) for each in stands}
            self.assertEqual(len(keys), len(stands))
            for each in stands:
                for one, other in slowly.moves(each):
                    behind = slowly.moved(each, one, other)
                    self.assertEqual(slowly.key(behind) in keys, notes(path, behind, 3) == told)

    def test_wrong_walkers(self):
        for thing in ANYTHING:
            if thing not in ("a", "b"):
                self.assertRefused(NoWalker, {"walker": thing}, net_span, ABC, noting(ab=1), 2, thing, None)
                self.assertRefused(NoWalker, {"walker": thing}, net_span, ABC, noting(ab=1), 2, "a", thing)


class Groups(ToldCase):
    def test_all_notes(self):
        ended = {}
        for names, most, told, shown, is_ended in known_notes():
            path = Path(names)
            expected = self.groups_of(names, told, most)
            self.assertTold(groups(path, told, most), expected)
            self.assertTold(free_lot(path, told, most), None if is_ended else expected[0])
            self.assertEqual(is_ended, len(expected) == 1)
            lots = [list(lot) for size in range(1, len(names)) for lot in itertools.combinations(names, size)
                    if all(told[x, y] == most for x in lot for y in names if y not in lot)]
            self.assertTold(free_lot(path, told, most), lots[0] if lots else None)
            self.assertTrue(len(lots) < 2 or len(lots[0]) < len(lots[1]))
            ended[len(names), most] = ended.get((len(names), most), 0) + (1 if is_ended else 0)
        for (many, most), number in ended.items():
            self.assertTold(count_ended(Path(slowly.names_of(many)), most), number)

    def groups_of(self, names, told, most):
        """Groups by joining whoever hangs together, in the only order in which former ones noted latter ones."""
        lots = [[name] for name in names]
        for one, other in itertools.combinations(names, 2):
            if max(told[one, other], told[other, one]) < most:
                joined = [lot for lot in lots if one in lot or other in lot]
                lots = [lot for lot in lots if lot not in joined] + [sorted(sum(joined, []), key=names.index)]
        orders = [order for order in itertools.permutations(lots) if all(
            told[x, y] == most for former, latter in itertools.combinations(order, 2) for x in former for y in latter)]
        self.assertEqual(len(orders), 1)
        return list(orders[0])

    def test_notes_among_one_group_have_a_last_stand(self):
        for names, most, told, shown, is_ended in known_notes():
            for group in groups(Path(names), told, most):
                if 1 < len(group) < len(names):
                    path, stand = of_some(Path(names), shown[0].places, group)
                    self.assertIsNotNone(last_stand(path, notes(path, stand, most), most))

    def test_in_the_path_s_order(self):
        path = Path(["c", "a", "b"])
        stand = {"c": 6, "a": -5, "b": 2}
        for most in (1, 2):
            told = notes(path, stand, most)
            self.assertTold(groups(path, told, most)[0], ["c"])
        told = {pair: 0 for pair in slowly.all_pairs(["c", "a", "b"])}
        self.assertTold(groups(path, told, 1), [["c", "a", "b"]])
        self.assertTold(free_lot(path, told, 1), None)


class Great(ToldCase):
    def great_notes(self):
        chance = random.Random(8)
        for many, most, far in ((2, 10 ** 6, 10 ** 6), (20, 10 ** 6, 10 ** 6), (20, 10 ** 6, 3 * 10 ** 5),
                                (20, 1, 1), (20, 3, 10 ** 17), (13, 10 ** 9, 10 ** 7)):
            names = slowly.many_names(many)
            stand = slowly.far_stand(names, [0] + [chance.randint(-far, far) for _ in names[1:]])
            yield names, stand, most

    def test_many_walkers_and_a_great_most(self):
        for names, stand, most in self.great_notes():
            path = Path(names)
            told = notes(path, stand, most)
            self.assertTold(are_notes(path, told, most), True)
            self.assertTold(notes_clash(path, told, most), None)
            parts = groups(path, told, most)
            self.assertEqual(sorted(sum(parts, [])), sorted(names))
            last = last_stand(path, told, most)
            self.assertEqual(last is None, len(parts) > 1)
            self.assertTold(free_lot(path, told, most), parts[0] if len(parts) > 1 else None)
            if last is not None:
                self.check_last(names, stand, most, told, last)

    def check_last(self, names, stand, most, told, last):
        path = Path(names)
        self.assertTold(notes(path, last, most), told)
        self.assertTold(is_earlier(path, stand, last), True)
        for one, other in slowly.moves(last):
            behind = slowly.moved(last, one, other)
            self.assertTrue(net(path, behind, one, other) <= 0 or notes(path, behind, most) != told)
        for one, other in slowly.all_pairs(names)[::11]:
            least, greatest = net_span(path, told, most, one, other)
            self.assertTrue(least <= net(path, stand, one, other) <= greatest)
            if told[one, other] > 0:
                self.assertEqual(net(path, last, one, other), greatest)

    def test_one_goes_round(self):
        names = slowly.many_names(20)
        path = Path(names)
        told = {(one, other): 10 ** 6 if one == names[3] else 0 for one, other in slowly.all_pairs(names)}
        self.assertTold(groups(path, told, 10 ** 6), [[names[3]], names[:3] + names[4:]])
        self.assertTold(stands_showing(path, told, 10 ** 6), None)
        self.assertTold(net_span(path, told, 10 ** 6, names[3], names[0]), (10 ** 6, None))
        self.assertTold(net_span(path, told, 10 ** 6, names[0], names[3]), (None, -10 ** 6))
        self.assertTold(net_span(path, told, 10 ** 6, names[0], names[1]), (0, 0))

    def test_counted(self):
        expected = 1
        for _ in range(19):
            expected *= 20 * 10 ** 6 - 1
        self.assertTold(count_ended(Path(slowly.many_names(20)), 10 ** 6), expected)
        self.assertTold(count_ended(Path(["a", "b"]), 1), 1)


class Example(ToldCase):
    def test_the_documents(self):
        self.assertTold(stands_showing(ABC, noting(ab=1, ac=2, bc=1), 2), [{"a": 3, "b": 1, "c": -1}])
        self.assertTold(notes_clash(ABC, noting(ab=1, ac=2), 2), ("three", "a", "b", "c"))
        told = noting(ab=2, ac=1, cb=1)
        self.assertTold(stands_showing(ABC, told, 2), [{"a": 3, "b": -2, "c": 2}, {"a": 4, "b": -3, "c": 2}])
        self.assertTold(last_stand(ABC, told, 2), {"a": 4, "b": -3, "c": 2})
        self.assertTold(net_span(ABC, told, 2, "a", "b"), (2, 3))
        told = noting(ab=2, ac=2)
        self.assertTold(free_lot(ABC, told, 2), ["a"])
        self.assertTold(groups(ABC, told, 2), [["a"], ["b", "c"]])
        self.assertTold(net_span(ABC, told, 2, "a", "b"), (2, None))
        self.assertTold(net_span(ABC, told, 2, "b", "c"), (0, 0))
        self.assertTold(noted(ABC, first_stand(ABC), 2), {"a": 0, "b": 0, "c": 0})


if __name__ == "__main__":
    unittest.main()

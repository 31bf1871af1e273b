"""Section 8 of the document: stands numbered, and drawn."""

import unittest

from ringwalkers.counted import count_stands
from ringwalkers.desks import Desk
from ringwalkers.errors import BadChooser, BadNumber, BadPath, BadStand, BadTotal, WalkError
from ringwalkers.madenumbers import numbers_made
from ringwalkers.numbered import drawn_stand, stand_at, stand_number
from ringwalkers.paths import Path

from tests import slowly
from tests.anything import ANYTHING
from tests.told import ToldCase

ABC = Path(["a", "b", "c"])
FIRST = {"a": 0, "b": 1, "c": 2}


def by_made(names, near, total):
    """All near stands with a total, in order by their lists of numbers made."""
    wanted = [walked for walked in near if slowly.total(walked) == total]
    return sorted(wanted, key=lambda walked: [slowly.made(walked, name) for name in names])


def next_list(made):
    """The next list of numbers with a 0 and the same sum, None behind the last one."""
    for place in range(len(made) - 2, -1, -1):
        rest = sum(made[place + 1:])
        zero_ahead = 0 in made[:place]
        behind = len(made) - place - 1
        steps = [1] if behind > 1 or zero_ahead else [rest]
        for more in steps:
            if 0 < more <= rest:
                return made[:place] + [made[place] + more] + [0] * (behind - 1) + [rest - more]
    return None


class Numbered(ToldCase):
    def test_near_stands(self):
        for names, near in slowly.small_paths():
            path = Path(names)
            for total in range(max(walked.distance for walked in near) + 1):
                stands = by_made(names, near, total)
                self.assertEqual(count_stands(path, total), len(stands))
                for number, walked in enumerate(stands):
                    self.assertTold(stand_at(path, total, number), walked.places)
                    self.assertTold(stand_number(path, walked.places), number)

    def test_farther_totals_one_behind_another(self):
        for many, total in ((2, 40), (3, 25), (4, 9), (5, 6), (6, 4)):
            names = slowly.many_names(many)
            path = Path(names)
            made = [0] * (many - 1) + [total]
            for number in range(count_stands(path, total)):
                stand = stand_at(path, total, number)
                self.assertEqual(list(numbers_made(path, stand).values()), made)
                self.assertTold(stand_number(path, stand), number)
                made = next_list(made)
            self.assertIsNone(made)

    def test_great_totals(self):
        for many in (2, 3, 10, 20):
            names = slowly.many_names(many)
            path = Path(names)
            for total in (10 ** 15, 10 ** 15 - 1, 10 ** 17 + 12345):
                many_stands = count_stands(path, total)
                for number in (0, many_stands // 3, many_stands // 2, many_stands * 7 // 9, many_stands - 2):
                    if number + 1 == many_stands:
                        continue
                    stand = stand_at(path, total, number)
                    made = list(numbers_made(path, stand).values())
                    self.assertEqual(sum(made), total)
                    self.assertTold(stand_number(path, stand), number)
                    further = stand_at(path, total, number + 1)
                    self.assertEqual(list(numbers_made(path, further).values()), next_list(made))
                last = numbers_made(path, stand_at(path, total, many_stands - 1))
                self.assertEqual(list(last.values()), [total] + [0] * (many - 1))

    def test_no_number(self):
        for thing in (9, 10, 10 ** 40, -1, True, False, None, "1", [1], {"a": 1}, FIRST):
            self.assertRefused(BadNumber, {"number": thing}, stand_at, ABC, 3, thing)
        self.assertRefused(BadNumber, {"number": 1}, stand_at, ABC, 0, 1)
        self.assertTold(stand_at(ABC, 0, 0), FIRST)
        self.assertTold(stand_number(ABC, FIRST), 0)
        most = count_stands(ABC, 10 ** 15)
        self.assertRefused(BadNumber, {"number": most}, stand_at, ABC, 10 ** 15, most)

    def test_order_of_errors(self):
        self.assertRefused(BadPath, {"thing": None}, stand_at, None, -1, -1)
        self.assertRefused(BadTotal, {"total": -1}, stand_at, ABC, -1, -1)
        self.assertRefused(BadStand, {"stand": None}, stand_number, ABC, None)


class Drawn(ToldCase):
    def test_each_number_draws_its_stand(self):
        for total in range(6):
            for number in range(count_stands(ABC, total)):
                asked = []

                def tell(many):
                    asked.append(many)
                    return number

                self.assertTold(drawn_stand(ABC, total, tell), stand_at(ABC, total, number))
                self.assertTold(asked, [count_stands(ABC, total)])

    def test_great_ones(self):
        path = Path(slowly.many_names(20))
        asked = []

        def last(many):
            asked.append(many)
            return many - 1

        stand = drawn_stand(path, 10 ** 15, last)
        self.assertTold(asked, [count_stands(path, 10 ** 15)])
        self.assertTold(stand, stand_at(path, 10 ** 15, asked[0] - 1))

    def test_wrong_answers(self):
        for thing in ANYTHING:
            if thing not in (0, 1, 2, 7) or isinstance(thing, bool):
                self.assertRefused(BadNumber, {"number": thing}, drawn_stand, ABC, 3, lambda many: thing)
        self.assertRefused(BadNumber, {"number": 9}, drawn_stand, ABC, 3, lambda many: many)
        self.assertRefused(BadNumber, {"number": 1}, drawn_stand, ABC, 0, lambda many: 1)

    def test_what_it_raises_comes_out(self):
        raised = BadStand("why")

        def refuse(many):
            raise raised

        with self.assertRaises(BadStand) as caught:
            drawn_stand(ABC, 3, refuse)
        self.assertIs(caught.exception, raised)

        def fail(many):
            raise KeyError(many)

        with self.assertRaises(KeyError) as caught:
            drawn_stand(ABC, 3, fail)
        self.assertEqual(caught.exception.args, (9,))

    def test_no_chooser(self):
        things = [0, 1, True, False, None, "", "last", [], (), {}, [len], (len,), {"a": len}, ABC, Desk(ABC),
                  WalkError("why"), BadStand(None), 10 ** 30]
        for thing in things + [thing for thing in ANYTHING if not callable(thing)]:
            self.assertRefused(BadChooser, {"thing": thing}, drawn_stand, ABC, 3, thing)

    def test_order_of_errors(self):
        asked = []
        self.assertRefused(BadPath, {"thing": 1}, drawn_stand, 1, -1, None)
        self.assertRefused(BadTotal, {"total": -1}, drawn_stand, ABC, -1, None)
        self.assertRefused(BadTotal, {"total": True}, drawn_stand, ABC, True, asked.append)
        self.assertEqual(asked, [])

    def test_a_chooser_that_asks_the_same(self):
        def ask(many):
            return stand_number(ABC, drawn_stand(ABC, 3, lambda again: again // 2)) + 1

        self.assertTold(drawn_stand(ABC, 3, ask), stand_at(ABC, 3, 5))


class Example(ToldCase):
    def test_the_documents(self):
        lists = [[0, 0, 2], [0, 1, 1], [0, 2, 0], [1, 0, 1], [1, 1, 0], [2, 0, 0]]
        for number, made in enumerate(lists):
            self.assertEqual(list(numbers_made(ABC, stand_at(ABC, 2, number)).values()), made)
        self.assertTold(stand_at(ABC, 2, 5), {"a": 2, "b": 0, "c": 1})
        self.assertTold(stand_number(ABC, {"a": 2, "b": 0, "c": 1}), 5)


if __name__ == "__main__":
    unittest.main()

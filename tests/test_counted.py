"""Section 8 of the document: stands counted by their totals."""

import unittest
from fractions import Fraction

from ringwalkers.counted import chance_made, chances_made, count_idle, count_stands, count_up_to, mean_idle
from ringwalkers.errors import BadNumber, BadTotal
from ringwalkers.paths import Path

from tests import slowly
from tests.slowly import choose
from tests.told import ToldCase

ABC = Path(["a", "b", "c"])
NEAR = [(2, 9), (3, 8), (4, 6), (5, 4)]


def levels(names, depth):
    """The lists of stands by how many overtakings they have in all."""
    told = [[] for _ in range(depth + 1)]
    for walked in slowly.explore(names, depth).values():
        told[slowly.total(walked)].append(walked)
    return told


def idle_in(names, walked):
    return len([name for name in names if slowly.made(walked, name) == 0])


def lowest(share):
    return (share.numerator, share.denominator)


class HowMany(ToldCase):
    def test_near_stands(self):
        for many, depth in NEAR:
            names = slowly.names_of(many)
            path = Path(names)
            so_far = 0
            for total, stands in enumerate(levels(names, depth)):
                so_far += len(stands)
                self.assertTold(count_stands(path, total), len(stands))
                self.assertTold(count_up_to(path, total), so_far)
                self.assertEqual(len(stands), choose(total + many - 1, many - 1) - choose(total - 1, many - 1))
                self.assertEqual(so_far, choose(total + many, many) - choose(total, many))

    def test_great_totals(self):
        for many in (2, 3, 20, 23):
            path = Path(slowly.many_names(many))
            for total in (10 ** 15, 10 ** 15 + 3, 10 ** 40, many, many - 1, many + 1, 1, 2):
                lists = choose(total + many - 1, many - 1)
                self.assertTold(count_stands(path, total), lists - choose(total - 1, many - 1))
                self.assertTold(count_up_to(path, total), choose(total + many, many) - choose(total, many))
                self.assertTold(count_up_to(path, total) - count_up_to(path, total - 1), count_stands(path, total))
            self.assertTold(count_stands(path, 0), 1)
            self.assertTold(count_up_to(path, 0), 1)
        self.assertTold(count_stands(Path(["a", "b"]), 10 ** 15), 2)
        self.assertTold(count_stands(ABC, 10 ** 15), 3 * 10 ** 15)

    def test_wrong_totals(self):
        for thing in (-1, -10 ** 15, True, False, None, "1", [1], (), 1.0):
            for work in (count_stands, count_up_to, mean_idle, chances_made):
                self.assertRefused(BadTotal, {"total": thing}, work, ABC, thing)
            for work in (count_idle, chance_made):
                self.assertRefused(BadTotal, {"total": thing}, work, ABC, thing, 0)
                self.assertRefused(BadTotal, {"total": thing}, work, ABC, thing, -1)
                self.assertRefused(BadNumber, {"number": thing}, work, ABC, 3, thing)


class WhoOvertookNobody(ToldCase):
    def test_near_stands(self):
        for many, depth in NEAR:
            names = slowly.names_of(many)
            path = Path(names)
            for total, stands in enumerate(levels(names, depth)):
                idle_ones = [idle_in(names, walked) for walked in stands]
                for idle in range(many + 3):
                    self.assertTold(count_idle(path, total, idle), idle_ones.count(idle))
                self.assertTold(mean_idle(path, total), lowest(Fraction(sum(idle_ones), len(idle_ones))))

    def test_great_totals(self):
        for many in (2, 3, 20):
            path = Path(slowly.many_names(many))
            for total in (10 ** 15, 10 ** 15 + 7, 1, 2, 19, 20, 21):
                counts = [count_idle(path, total, idle) for idle in range(many + 1)]
                self.assertTold(counts[0], 0)
                self.assertTold(counts[many], 0)
                for idle in range(1, many):
                    self.assertTold(counts[idle], choose(many, idle) * choose(total - 1, many - idle - 1))
                self.assertEqual(sum(counts), count_stands(path, total))
                mean = Fraction(sum(idle * count for idle, count in enumerate(counts)), sum(counts))
                self.assertTold(mean_idle(path, total), lowest(mean))
            self.assertTold(count_idle(path, 10 ** 15, 10 ** 15), 0)
            self.assertTold(count_idle(path, 0, 10 ** 15), 0)
            self.assertTold(count_idle(path, 0, many), 1)
            self.assertTold(mean_idle(path, 0), (many, 1))


class OneWalkers(ToldCase):
    def test_near_stands(self):
        for many, depth in NEAR:
            names = slowly.names_of(many)
            path = Path(names)
            for total, stands in enumerate(levels(names, depth)):
                expected = {}
                for number in range(total + 3):
                    counts = [[slowly.made(walked, name) for walked in stands].count(number) for name in names]
                    self.assertEqual(len(set(counts)), 1)
                    share = Fraction(counts[0], len(stands))
                    self.assertTold(chance_made(path, total, number), lowest(share))
                    if share > 0:
                        expected[number] = lowest(share)
                self.assertTold(chances_made(path, total), expected)

    def test_two_hundred(self):
        for many in (2, 3, 20):
            path = Path(slowly.many_names(many))
            for total in (0, 1, 200, 203):
                told = chances_made(path, total)
                self.assertEqual(sum(Fraction(*share) for share in told.values()), 1)
                mean = sum(number * Fraction(*share) for number, share in told.items())
                self.assertEqual(mean, Fraction(total, many))
                self.assertEqual(list(told), sorted(told))
                for number, share in told.items():
                    self.assertTold(chance_made(path, total, number), share)
        self.assertTold(chances_made(Path(["a", "b"]), 200), {0: (1, 2), 200: (1, 2)})

    def test_great_totals(self):
        total = 10 ** 15
        for many in (3, 20):
            path = Path(slowly.many_names(many))
            stands = count_stands(path, total)
            self.assertTold(chance_made(path, total, 0), lowest(Fraction(choose(total + many - 2, many - 2), stands)))
            for number in (1, 12345, total // 2, total - 1, total):
                left = total - number
                lists = choose(left + many - 2, many - 2) - choose(left - 1, many - 2)
                self.assertTold(chance_made(path, total, number), lowest(Fraction(lists, stands)))
            for number in (total + 1, 10 ** 18, 10 ** 30):
                self.assertTold(chance_made(path, total, number), (0, 1))
        self.assertTold(chance_made(Path(["a", "b"]), total, total), (1, 2))
        self.assertTold(chance_made(Path(["a", "b"]), total, total - 1), (0, 1))
        self.assertTold(chance_made(ABC, 0, 0), (1, 1))
        self.assertTold(chance_made(ABC, 0, 1), (0, 1))


class Example(ToldCase):
    def test_the_documents(self):
        self.assertTold([count_stands(ABC, total) for total in range(5)], [1, 3, 6, 9, 12])
        self.assertTold(count_up_to(ABC, 4), 31)
        self.assertTold([count_idle(ABC, 3, idle) for idle in range(4)], [0, 6, 3, 0])
        self.assertTold(mean_idle(ABC, 3), (4, 3))
        self.assertTold(chances_made(ABC, 3), {0: (4, 9), 1: (2, 9), 2: (2, 9), 3: (1, 9)})


if __name__ == "__main__":
    unittest.main()

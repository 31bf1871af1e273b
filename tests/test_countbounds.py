"""Section 8 of the document: stands counted by bounds and by teams."""

import itertools
import unittest

from ringwalkers.countbounds import count_between, count_by_teams
from ringwalkers.errors import BadBounds, BadTeams, BadTotals
from ringwalkers.paths import Path

from tests import slowly
from tests.anything import ANYTHING
from tests.slowly import choose
from tests.told import ToldCase

ABC = Path(["a", "b", "c"])


def numbers_of(names, depth):
    """The numbers made of all near stands."""
    return [[slowly.made(walked, name) for name in names] for walked in slowly.explore(names, depth).values()]


class Between(ToldCase):
    def test_near_stands(self):
        ends = [(0, 0), (0, 1), (0, 2), (1, 1), (1, 2), (2, 2)]
        for many in (2, 3):
            names = slowly.names_of(many)
            near = numbers_of(names, 2 * many)
            for bounds in itertools.product(ends, repeat=many):
                expected = len([made for made in near
                                if all(least <= number <= most for number, (least, most) in zip(made, bounds))])
                self.assertTold(count_between(Path(names), dict(zip(names, bounds))), expected)

    def test_great_bounds(self):
        names = slowly.many_names(20)
        path = Path(names)
        self.assertTold(count_between(path, {name: (0, 10 ** 15) for name in names}), (10 ** 15 + 1) ** 20 - 10 ** 300)
        self.assertTold(count_between(path, {name: (1, 10 ** 15) for name in names}), 0)
        self.assertTold(count_between(path, {name: (10 ** 15, 10 ** 15) for name in names}), 0)
        bounds = {name: (10 ** 15, 3 * 10 ** 15) for name in names}
        bounds["w3"] = (0, 0)
        self.assertTold(count_between(path, bounds), (2 * 10 ** 15 + 1) ** 19)
        bounds["w3"] = (0, 5)
        self.assertTold(count_between(path, bounds), (2 * 10 ** 15 + 1) ** 19)
        bounds["w4"] = (0, 7)
        self.assertTold(count_between(path, bounds), (6 * 8 - 5 * 7) * (2 * 10 ** 15 + 1) ** 18)

    def test_no_bounds(self):
        right = {"a": (0, 1), "b": (0, 1), "c": (0, 1)}
        wrongs = [{"a": (0, 1), "b": (0, 1)}, {**right, "d": (0, 1)}, {"a": (0, 1), "b": (0, 1), "d": (0, 1)}, {}, [5]]
        for name in right:
            for thing in ((1, 0), (-1, 0), (-2, -1), (0,), (0, 1, 2), 0, None, "01", (True, 1), (0, True), (0, None),
                          (None, 1), ("0", "1"), {0: 1, 1: 0}, [[0], 1], (2, 1), []):
                wrongs.append({**right, name: thing})
        for wrong in wrongs:
            self.assertRefused(BadBounds, {"bounds": wrong}, count_between, ABC, wrong)


class Teams(ToldCase):
    def test_near_stands(self):
        splits = {2: [["ab"], ["a", "b"], ["b", "a"]],
                  3: [["abc"], ["ab", "c"], ["c", "ba"], ["b", "ac"], ["a", "b", "c"], ["c", "a", "b"]],
                  4: [["ac", "bd"], ["d", "b", "ca"]]}
        for many, depth in ((2, 8), (3, 8), (4, 6)):
            names = slowly.names_of(many)
            near = numbers_of(names, depth)
            for split in splits[many]:
                teams = [list(team) for team in split]
                together = [[sum(made[names.index(name)] for name in team) for team in teams] for made in near]
                for totals in itertools.product(range(depth + 1), repeat=len(teams)):
                    if sum(totals) <= depth:
                        expected = together.count(list(totals))
                        self.assertTold(count_by_teams(Path(names), teams, list(totals)), expected)

    def test_great_totals(self):
        names = slowly.many_names(20)
        teams = [names[:1], names[1:8], names[8:]]
        great = 10 ** 15
        for totals in ([great, great + 1, great + 2], [0, great, 3], [great, 0, 1], [5, 6, 11], [0, 0, 0]):
            all_lists, without = 1, 1
            for team, total in zip(teams, totals):
                all_lists *= choose(total + len(team) - 1, len(team) - 1)
                without *= choose(total - 1, len(team) - 1)
            self.assertTold(count_by_teams(Path(names), teams, totals), all_lists - without)

    def test_no_teams(self):
        right = [["a", "b"], ["c"]]
        for wrong in ANYTHING + [["a", "a"], ["a", "d"], ["d"], "c", "a", {"c": 1}, [["c"]], ["c", None]]:
            if wrong not in (["a"], ["a", "b"], ("a",), ("a", "b"), ["a", "b", "c"]):
                self.assertRefused(BadTeams, {"index": 0}, count_by_teams, ABC, [wrong, ["a"]], [1, 1])
                self.assertRefused(BadTeams, {"index": 1}, count_by_teams, ABC, [["a"], wrong, wrong], [1, 1])
                self.assertRefused(BadTeams, {"index": 2}, count_by_teams, ABC, right + [wrong], [1, 1, 1])
            if not isinstance(wrong, (list, tuple)):
                self.assertRefused(BadTeams, {"index": 0}, count_by_teams, ABC, wrong, [1, 1])
        self.assertRefused(BadTeams, {"index": 1}, count_by_teams, ABC, [["a", "b"], ["b", "c"]], [1, 1])
        self.assertRefused(BadTeams, {"index": 0}, count_by_teams, ABC, [["a", "b", "a"], ["c"]], [1, 1])
        self.assertRefused(BadTeams, {"index": 1}, count_by_teams, ABC, [["a", "b"], [], ["c"]], [1, 1, 1])
        self.assertRefused(BadTeams, {"index": 2}, count_by_teams, ABC, [["a", "b"], ["c"], []], [1, 1, 1])

    def test_walkers_left_over(self):
        self.assertRefused(BadTeams, {"index": 0}, count_by_teams, ABC, [], [])
        self.assertRefused(BadTeams, {"index": 1}, count_by_teams, ABC, [["a", "b"]], [1])
        self.assertRefused(BadTeams, {"index": 2}, count_by_teams, ABC, [["a"], ["b"]], None)

    def test_no_totals(self):
        teams = [["a", "b"], ["c"]]
        for wrong in ANYTHING + [1.0, -5]:
            if type(wrong) is not int or wrong < 0:
                self.assertRefused(BadTotals, {"index": 0}, count_by_teams, ABC, teams, [wrong, 1])
                self.assertRefused(BadTotals, {"index": 1}, count_by_teams, ABC, teams, (1, wrong))
                self.assertRefused(BadTotals, {"index": 1}, count_by_teams, ABC, teams, [1, wrong, wrong])
            self.assertRefused(BadTotals, {"index": 2}, count_by_teams, ABC, teams, [1, 1, wrong])
            if not isinstance(wrong, (list, tuple)):
                self.assertRefused(BadTotals, {"index": 0}, count_by_teams, ABC, teams, wrong)
        self.assertRefused(BadTotals, {"index": 0}, count_by_teams, ABC, teams, [])
        self.assertRefused(BadTotals, {"index": 1}, count_by_teams, ABC, teams, [1])
        self.assertRefused(BadTotals, {"index": 0}, count_by_teams, ABC, teams, [-1])
        self.assertRefused(BadTotals, {"index": 2}, count_by_teams, ABC, teams, [1, 1, 1, 1])


class Example(ToldCase):
    def test_the_documents(self):
        self.assertTold(count_between(ABC, {"a": (0, 1), "b": (0, 1), "c": (0, 1)}), 7)
        self.assertTold(count_by_teams(ABC, [["a", "b"], ["c"]], [2, 1]), 2)


if __name__ == "__main__":
    unittest.main()

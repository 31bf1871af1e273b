"""The tests' own way with drawn steps: all draws, one after another, and exact equations."""

import functools
import itertools
from fractions import Fraction

from tests import slowly


def as_told(share):
    """A Fraction as the pair that the document tells."""
    return share.numerator, share.denominator


@functools.lru_cache(maxsize=None)
def ends_of(names, start, steps):
    """All stands to which so many draws lead from the one with a key, one for each list of draws, as Walked."""
    begun = slowly.begin_of(names, dict(zip(names, start)))
    level = [begun]
    for _ in range(steps):
        level = [slowly.gone(walked, one, other) for walked in level for one, other in slowly.moves(walked.places)]
    return level


def scenes():
    """Names, a near stand and a number of steps, few enough for all draws."""
    for many, depth, share, most in ((2, 2, 3, 6), (3, 2, 4, 5), (4, 2, 4, 4), (5, 1, 2, 3)):
        names = slowly.names_of(many)
        near = list(slowly.explore(names, depth).values())
        for walked in near[:1] + near[-share:]:
            for steps in range(most + 1):
                yield names, walked.places, steps


def further(names, places, one, other):
    """How many times one comes right behind the next one, till this is other."""
    ahead = dict(slowly.moves(places))
    here, count = one, 0
    while here != other:
        here, count = ahead[here], count + 1
    return count


def rounds(names):
    """All orders in which the walkers can go round, from the first one on."""
    return [tuple(names[:1]) + row for row in itertools.permutations(names[1:])]


def after_step(row, index):
    """The order behind the overtaking of the one right ahead by the one at an index."""
    behind = list(row)
    ahead = (index + 1) % len(row)
    behind[index], behind[ahead] = behind[ahead], behind[index]
    begin = behind.index(row[0])
    return tuple(behind[begin:] + behind[:begin])


def solved(rows, values):
    """The solution of linear equations: rows of coefficients, values on the other side."""
    table = [[Fraction(each) for each in row] + [Fraction(value)] for row, value in zip(rows, values)]
    for column in range(len(table)):
        pivot = next(index for index in range(column, len(table)) if table[index][column] != 0)
        table[column], table[pivot] = table[pivot], table[column]
        table[column] = [each / table[column][column] for each in table[column]]
        for index, row in enumerate(table):
            if index != column and row[column] != 0:
                table[index] = [each - row[column] * base for each, base in zip(row, table[column])]
    return [row[-1] for row in table]


def till_one_overtakes(names, one, other):
    """By orders: the chance that one overtakes other first, and the mean of how many steps it takes."""
    orders = rounds(names)
    many = len(names)
    equations, chances, means = [], [], []
    for row in orders:
        equation = {order: Fraction(0) for order in orders}
        equation[row] += 1
        chance = Fraction(0)
        for index in range(many):
            pair = (row[index], row[(index + 1) % many])
            if pair == (one, other):
                chance += Fraction(1, many)
            elif pair != (other, one):
                equation[after_step(row, index)] -= Fraction(1, many)
        equations.append(list(equation.values()))
        chances.append(chance)
        means.append(1)
    return dict(zip(orders, solved(equations, chances))), dict(zip(orders, solved(equations, means)))

"""Stands counted by bounds of the numbers made, and by what teams made."""

from ringwalkers.counting import choose, product_of
from ringwalkers.errors import BadBounds, BadTeams, BadTotals
from ringwalkers.kinds import is_dict_of, is_list, is_list_of, is_number, is_walker
from ringwalkers.paths import walkers_of


def count_between(path, bounds):
    """How many stands there are in which each number made lies between the walker's bounds."""
    names = walkers_of(path)
    if not is_dict_of(names, bounds, are_bounds):
        raise BadBounds(bounds)
    ends = [bounds[name] for name in names]
    all_lists = product_of([most - least + 1 for least, most in ends])
    without_zero = product_of([most - max(least, 1) + 1 for least, most in ends])
    return all_lists - without_zero


def are_bounds(thing):
    if not is_list_of(2, thing):
        return False
    least, most = thing
    return is_number(least) and is_number(most) and least <= most


def count_by_teams(path, teams, totals):
    """How many stands there are in which each team's walkers made so many together."""
    names = walkers_of(path)
    need_teams(names, teams)
    need_totals(len(teams), totals)
    sizes = [(len(team), total) for team, total in zip(teams, totals)]
    all_lists = product_of([choose(total + many - 1, many - 1) for many, total in sizes])
    without_zero = product_of([choose(total - 1, many - 1) for many, total in sizes])
    return all_lists - without_zero


def need_teams(names, teams):
    if not is_list(teams):
        raise BadTeams(0)
    met = {}
    for index, team in enumerate(teams):
        if not is_list(team) or len(team) == 0:
            raise BadTeams(index)
        for walker in team:
            if not is_walker(names, walker) or walker in met:
                raise BadTeams(index)
            met[walker] = True
    if len(met) < len(names):
        raise BadTeams(len(teams))


def need_totals(many, totals):
    """BadTotals if the totals are not so many numbers."""
    if not is_list(totals):
        raise BadTotals(0)
    for index, total in enumerate(totals):
        if index >= many or not is_number(total):
            raise BadTotals(index)
    if len(totals) < many:
        raise BadTotals(len(totals))

"""Walks as plain numbers: lap, posts and paces, and when somebody catches somebody."""

from ringwalkers.kinds import is_dict_of, is_integer, is_list_of, is_number


def is_lap(names, thing):
    """Whether any object is a lap that has a post for each walker."""
    return is_integer(thing) and thing >= len(names)


def are_posts(names, lap, thing):
    """Whether any object is a dict from just all walkers to rising numbers below the lap."""
    if not is_dict_of(names, thing, is_number):
        return False
    row = [thing[name] for name in names]
    return row[-1] < lap and all([one < other for one, other in zip(row, row[1:])])


def is_walking(names, thing):
    """Whether any object is a walk."""
    if not is_list_of(3, thing):
        return False
    lap, posts, paces = thing
    return is_lap(names, lap) and are_posts(names, lap, posts) and is_dict_of(names, paces, is_number)


def faster_by(walk, one, other):
    """By how much one's pace is above other's."""
    _, _, paces = walk
    return paces[one] - paces[other]


def lead_of(walk, one, other):
    """By how much one's post is above other's."""
    _, posts, _ = walk
    return posts[one] - posts[other]


def caught_below(walk, one, other, hour):
    """How often the faster one caught other at hours below this one."""
    lap, _, _ = walk
    lead = lead_of(walk, one, other)
    return (lead + faster_by(walk, one, other) * hour - 1) // lap - lead // lap


def catch_hour(walk, one, other, times):
    """The hour at which the faster one catches other for the times-th time, as top and bottom."""
    lap, _, _ = walk
    lead = lead_of(walk, one, other)
    return (times + lead // lap) * lap - lead, faster_by(walk, one, other)


def is_ahead_of(hour, later):
    """Whether an hour is below a later one, both told as top and bottom."""
    return hour[0] * later[1] < later[0] * hour[1]

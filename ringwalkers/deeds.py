"""Deeds: what is one, and what comes of it.

A state is a pair: the places, and the watched questions as pairs (question, whether it is held). States are not
changed: a deed leads to a new one.
"""

from ringwalkers.checks import need_walker
from ringwalkers.errors import NotBehind
from ringwalkers.kinds import is_list, is_name, is_times
from ringwalkers.places import change_places, in_order, is_right_behind, nets_among
from ringwalkers.questions import need_question
from ringwalkers.refusals import BadDeed, IsWatched, NotWatched, WasOvertaken


def need_deed(thing):
    if not is_deed(thing):
        raise BadDeed(thing)


def is_deed(thing):
    """Whether any object is a deed."""
    if not is_list(thing) or len(thing) == 0:
        return False
    word = thing[0]
    rest = thing[1:]
    if word == "overtake":
        return len(rest) == 2 and is_name(rest[0]) and is_name(rest[1])
    if word == "round":
        return len(rest) == 2 and is_name(rest[0]) and is_times(rest[1])
    return word in ("watch", "hold", "free") and len(rest) == 1


def told_deed(deed):
    """The deed as it is told: tuples, also its question."""
    if deed[0] in ("watch", "hold", "free"):
        return deed[0], tuple(deed[1])
    return tuple(deed)


def state_behind(names, state, deed):
    """The state to which a deed leads; all errors but WouldChange."""
    places, watched = state
    if deed[0] == "overtake":
        return behind_overtaking(names, places, deed[1], deed[2]), watched
    if deed[0] == "round":
        return behind_rounds(names, places, deed[1], deed[2]), watched
    need_question(names, deed[1])
    if deed[0] == "watch":
        return places, with_watched(watched, deed[1])
    if deed[0] == "hold":
        return places, with_held(watched, deed[1])
    return places, without(watched, deed[1])


def behind_overtaking(names, places, one, other):
    need_walker(names, one)
    need_walker(names, other)
    if not is_right_behind(names, places, one, other):
        raise NotBehind(one, other)
    if nets_among(names, places)[other, one] > 0:
        raise WasOvertaken(one, other)
    behind = in_order(names, places)
    change_places(behind, one, other)
    return behind


def behind_rounds(names, places, one, times):
    need_walker(names, one)
    nets = nets_among(names, places)
    behind = {}
    for other in names:
        if other == one:
            behind[one] = places[one] + times * (len(names) - 1)
        elif nets[other, one] > 0:
            raise WasOvertaken(one, other)
        else:
            behind[other] = places[other] - times
    return behind


def with_watched(watched, question):
    if tuple(question) in [known for known, _ in watched]:
        raise IsWatched(question)
    return watched + [(tuple(question), False)]


def with_held(watched, question):
    asked = tuple(question)
    if (asked, True) in watched:
        raise IsWatched(question)
    if (asked, False) in watched:
        return [(known, held or known == asked) for known, held in watched]
    return watched + [(asked, True)]


def without(watched, question):
    asked = tuple(question)
    if asked not in [known for known, _ in watched]:
        raise NotWatched(question)
    return [(known, held) for known, held in watched if known != asked]

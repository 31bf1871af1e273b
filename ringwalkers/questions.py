"""Questions about a stand, and their answers."""

from ringwalkers.kinds import is_list, is_times, is_two_walkers, is_walker
from ringwalkers.laps import greatest_net
from ringwalkers.madenumbers import made_among
from ringwalkers.notings import noted_among
from ringwalkers.places import ahead_of, nets_among
from ringwalkers.refusals import BadQuestion


def need_question(names, thing):
    if not is_asking(names, thing):
        raise BadQuestion(thing)


def is_asking(names, thing):
    """Whether any object is a question."""
    if not is_list(thing) or len(thing) == 0:
        return False
    word = thing[0]
    rest = thing[1:]
    if word == "net":
        return is_two_walkers(names, rest)
    if word in ("made", "ahead"):
        return len(rest) == 1 and is_walker(names, rest[0])
    if word == "noted":
        return len(rest) == 2 and is_walker(names, rest[0]) and is_times(rest[1])
    return word in ("laps", "all") and len(rest) == 0


def answer_to(names, places, question):
    word = question[0]
    if word == "net":
        return nets_among(names, places)[question[1], question[2]]
    if word == "ahead":
        return ahead_of(names, places)[question[1]]
    if word == "made":
        return made_among(names, places)[question[1]]
    if word == "noted":
        return noted_among(names, places, question[2])[question[1]]
    if word == "laps":
        return greatest_net(names, places)
    return sum(list(made_among(names, places).values()))


def changes_between(names, before, behind, questions):
    """The questions answered otherwise in the latter places, each with both answers."""
    told = [(each, answer_to(names, before, each), answer_to(names, behind, each)) for each in questions]
    return [(question, former, latter) for question, former, latter in told if former != latter]

"""Texts of desks: written, and read back."""

from ringwalkers.desks import Desk, desk_of
from ringwalkers.kinds import is_name
from ringwalkers.paths import Path
from ringwalkers.places import is_standing
from ringwalkers.questions import is_asking
from ringwalkers.refusals import BadDesk, BadText

FIGURES = "0123456789"
MOST_FIGURES = 19


def write_desk(desk):
    """A line for each walker, then one for each watched question."""
    if not isinstance(desk, Desk):
        raise BadDesk(desk)
    rows = [["walker", name, place] for name, place in desk.stand().items()]
    for question, _, held in desk.watched():
        rows.append(["hold" if held else "watch"] + list(question))
    return "".join([" ".join([str(part) for part in row]) + "\n" for row in rows])


def read_desk(text):
    """The desk that has this text."""
    if not isinstance(text, str):
        raise BadText(0)
    pieces = text.split("\n")
    # What stands behind the last line feed is a line that lacks one, or nothing.
    lines = pieces if pieces[-1] != "" else pieces[:-1]
    places = {}
    watched = []
    for index, line in enumerate(lines):
        if not take_line(places, watched, line.split(" ")):
            raise BadText(index + 1)
    if len(lines) == len(pieces):
        raise BadText(len(lines))
    if not is_whole(places):
        raise BadText(len(lines) + 1)
    return desk_of(Path(list(places)), places, watched)


def take_line(places, watched, words):
    """Whether a line with these words can stand behind those ahead; if so, places or what is watched change."""
    if words[0] == "walker":
        if watched or not is_walker_line(places, words):
            return False
        places[words[1]] = int(words[2])
        return True
    question = read_question(words[1:])
    if words[0] not in ("watch", "hold") or not is_whole(places) or not is_asking(list(places), question):
        return False
    if question in [known for known, _ in watched]:
        return False
    watched.append((question, words[0] == "hold"))
    return True


def is_walker_line(places, words):
    return len(words) == 3 and is_name(words[1]) and words[1] not in places and is_written(words[2])


def is_whole(places):
    """Whether there are walkers enough, and their places are a stand."""
    return len(places) >= 2 and is_standing(list(places), places)


def read_question(words):
    """The words as a question, the last one of "noted" as an integer; what is none stays none."""
    if len(words) == 3 and words[0] == "noted" and is_written(words[2]):
        return words[0], words[1], int(words[2])
    return tuple(words)


def is_written(word):
    """Whether a word is an integer as Python writes it, with not too many figures."""
    figures = word[1:] if word.startswith("-") else word
    if not 1 <= len(figures) <= MOST_FIGURES or not all([sign in FIGURES for sign in figures]):
        return False
    return word == "0" or figures[0] != "0"

"""Every function of the interface with right arguments, and what is refused of each parameter."""

import ringwalkers.errors as errors
import ringwalkers.refusals as refusals
from ringwalkers import againandagain, askers, callers, capped, commonrows, commons, countbounds, counted, desktexts
from ringwalkers import drawnsteps, fewbetween, halftold, indoubt, joinings, lapcounts, laps, madenumbers, moreleft
from ringwalkers import netnumbers, netspans, notecounts, noterows, notes, numbered, observers, pacelooks, pairsteps
from ringwalkers import paths, photos, pricelists, priceorders, priceweights, runs, shortestruns, shownotes, steps
from ringwalkers import tables, teams, views, walks, withincounts
from ringwalkers.desks import Desk
from ringwalkers.paths import Path

ABC = Path(["a", "b", "c"])
FIRST = {"a": 0, "b": 1, "c": 2}
STAND = {"a": 4, "b": 0, "c": -1}
OTHER_STAND = {"a": 2, "b": 1, "c": 0}
RUN = [("a", "c"), ("a", "b")]
TABLE = {("a", "b"): 2, ("a", "c"): 2, ("b", "a"): -2, ("b", "c"): 1, ("c", "a"): -2, ("c", "b"): -1}
MADE = {"a": 4, "b": 1, "c": 0}
SUFFERED = {"a": 0, "b": 2, "c": 3}
NETS = {"a": 4, "b": -1, "c": -3}
# S, T and V of [9.7].
STANDS = [{"a": 2, "b": 1, "c": 0}, {"a": 1, "b": 0, "c": 2}]
STANDS_OF_A_RING = [{"a": 2, "b": 1, "c": 0}, {"a": -1, "b": 1, "c": 3}]
# What is noted up to twice in STAND, and the second and third notes of [11.7].
NOTES = {("a", "b"): 2, ("a", "c"): 2, ("b", "a"): 0, ("b", "c"): 1, ("c", "a"): 0, ("c", "b"): 0}
ENDED_NOTES = {("a", "b"): 2, ("a", "c"): 1, ("b", "a"): 0, ("b", "c"): 0, ("c", "a"): 0, ("c", "b"): 1}
FREE_NOTES = {("a", "b"): 2, ("a", "c"): 2, ("b", "a"): 0, ("b", "c"): 0, ("c", "a"): 0, ("c", "b"): 0}
NEXT_NOTES = {("a", "b"): 2, ("a", "c"): 2, ("b", "a"): 0, ("b", "c"): 0, ("c", "a"): 0, ("c", "b"): 1}
PHOTO = ["a", "b", "c"]
LATER_PHOTO = ["c", "b", "a"]
POSTS = {"a": 0, "b": 4, "c": 7}
WALK = (10, POSTS, {"a": 3, "b": 1, "c": 1})
LOOKS = [(3, {"a": 1, "b": 0, "c": 2})]
# No paces fit these: a overtook b by the first hour, and has not by the second.
LOOKS_OF_A_RING = [(1, {"a": 1, "b": 0, "c": 2}), (2, {"a": 0, "b": 1, "c": 2})]
SPANS = {("a", "b"): (1, None), ("b", "c"): (1, 2)}
SPANS_OF_A_RING = {("a", "b"): (1, None), ("b", "c"): (1, 2), ("c", "a"): (0, None)}
FEW_SPANS = {("a", "b"): (0, 1), ("b", "c"): (0, 1), ("a", "c"): (0, 0)}
VIEW = {"b": 2, "c": 2}
XY = Path(["x", "y"])
FIRST_XY = {"x": 0, "y": 1}
SUMS = {"a": 5, "b": 4, "c": 4}
PRICES = {("a", "b"): 3, ("a", "c"): 1, ("b", "a"): 1, ("b", "c"): 1, ("c", "a"): 1, ("c", "b"): 1}
ORDER = ["a", "c", "b"]
WISHES = [("a", "b", 1)]
WISHES_OF_A_RING = [("a", "b", 1), ("b", "a", 0)]
WEIGHTS = ({("a", "b"): 3, ("a", "c"): 0, ("b", "c"): 0}, [3])
TEXT = "walker a 5\nwalker b -2\nwalker c 0\nhold laps\n"


def is_plain_number(thing):
    return isinstance(thing, int) and not isinstance(thing, bool) and thing >= 0


def is_walker(thing):
    return isinstance(thing, str) and thing in ("a", "b", "c")


def is_any(thing):
    return True


def is_none(thing):
    return False


def is_list(thing):
    return isinstance(thing, (list, tuple))


def is_empty_list(thing):
    return is_list(thing) and len(thing) == 0


def is_lot(thing):
    if not is_list(thing) or len(thing) == 0 or not all(is_walker(each) for each in thing):
        return False
    return len(set(thing)) == len(thing)


def is_some(thing):
    return is_lot(thing) and len(thing) > 1


def is_integer(thing):
    return isinstance(thing, int) and not isinstance(thing, bool)


def is_made_of_some(thing):
    return isinstance(thing, dict) and all(is_walker(name) and is_plain_number(thing[name]) for name in thing)


def is_wishes(thing):
    return is_empty_list(thing) or thing == [["a", "b", 1]]


def is_pairs(thing):
    return is_empty_list(thing) or thing == [["a", "b"]]


def is_new_name(thing):
    return isinstance(thing, str) and thing in ("d", "ab", "abc", "walker")


class Wrong:
    """What is refused of a parameter: the error's class, the name under which it keeps the thing, what is right.

    An error that keeps an index is due with 0 for what is no list, one that keeps a line for what is no string.
    """

    def __init__(self, error, field, is_right=is_none):
        self.error = error
        self.field = field
        self.is_right = is_right
        self.by_place = field in ("index", "line") and error is not errors.BadIndex
        self.kinds = str if field == "line" else (list, tuple)


def is_small_number(thing):
    return is_plain_number(thing) and thing <= 5


def is_part(thing):
    return isinstance(thing, dict) and len(thing) == 2 and all(
        is_walker(name) and is_plain_number(number) for name, number in thing.items())


def is_photo(thing):
    return is_list(thing) and all(is_walker(each) for each in thing) and sorted(thing) == ["a", "b", "c"]


def is_times(thing):
    return is_plain_number(thing) and thing > 0


def last_one(many):
    return many - 1


def first_of_those(stand, may_come):
    return may_come[0]


def c_made_none(asked):
    """Asks a and b, and tells the stand in which c made 0."""
    if len(asked) < 2:
        return "ab"[len(asked)]
    places = madenumbers.stand_of_made(ABC, dict(asked, c=0))
    return FIRST if places is None else places


def held_desk():
    desk = Desk(ABC)
    desk.do(("overtake", "a", "b"))
    desk.do(("round", "a", 2))
    desk.do(("hold", ("laps",)))
    return desk


def is_near_step(thing):
    return is_list(thing) and list(thing) == ["a", "b", 1] and thing[2] is not True


PATH = Wrong(errors.BadPath, "thing", lambda thing: isinstance(thing, Path))
STAND_ASKED = Wrong(errors.BadStand, "stand")
WALKER = Wrong(errors.NoWalker, "walker", is_walker)
STEP = Wrong(errors.BadStep, "step", is_near_step)
NUMBER = Wrong(errors.BadNumber, "number", is_plain_number)
PHOTO_ASKED = Wrong(refusals.BadPhoto, "photo", is_photo)

REFUSED = {
    "path": PATH,
    "stand": STAND_ASKED,
    "walker": WALKER,
    "one": WALKER,
    "other": WALKER,
    "thing": Wrong(None, None, is_any),
    "run": Wrong(errors.BadRun, "index", is_pairs),
    "blocks": Wrong(errors.BadBlocks, "index", lambda thing: is_empty_list(thing) or thing == [([], 1)]),
    "table": Wrong(errors.BadTable, "table"),
    "some": Wrong(errors.BadSome, "index", is_some),
    "name": Wrong(errors.BadName, "name", is_new_name),
    "nets": Wrong(errors.BadNets, "nets"),
    "numbers": Wrong(errors.BadNumbers, "numbers"),
    "left": Wrong(errors.BadLeft, "left"),
    "others": Wrong(errors.BadOthers, "others"),
    "times": Wrong(errors.BadTimes, "times", is_plain_number),
    "later": STAND_ASKED,
    "mid": STAND_ASKED,
    "many": Wrong(errors.BadMany, "many", is_small_number),
    "step": STEP,
    "another": STEP,
    "total": Wrong(errors.BadTotal, "total", is_plain_number),
    "idle": NUMBER,
    "number": NUMBER,
    "bounds": Wrong(errors.BadBounds, "bounds"),
    "teams": Wrong(errors.BadTeams, "index"),
    "totals": Wrong(errors.BadTotals, "index"),
    "laps": Wrong(refusals.BadLaps, "laps", is_plain_number),
    "chooser": Wrong(errors.BadChooser, "thing", callable),
    "stands": Wrong(errors.BadStands, "index"),
    "most": Wrong(errors.BadMost, "most", lambda thing: is_plain_number(thing) and thing > 0),
    "noted": Wrong(errors.BadNoted, "noted"),
    "part": Wrong(errors.BadPart, "part", is_part),
    "index": Wrong(errors.BadIndex, "index", lambda thing: is_plain_number(thing) and thing < 16),
    "notes": Wrong(errors.BadNotes, "notes"),
    "photo": PHOTO_ASKED,
    "gains": Wrong(refusals.BadGains, "gains"),
    "photos": Wrong(refusals.BadPhotos, "index"),
    "walk": Wrong(refusals.BadWalk, "walk"),
    "hour": Wrong(refusals.BadHour, "hour", is_plain_number),
    "lap": Wrong(refusals.BadLap, "lap", lambda thing: is_plain_number(thing) and thing > 2),
    "posts": Wrong(refusals.BadPosts, "posts"),
    "looks": Wrong(refusals.BadLooks, "index", is_empty_list),
    "spans": Wrong(refusals.BadSpans, "spans", lambda thing: thing == {}),
    "x": WALKER,
    "y": WALKER,
    "made": Wrong(refusals.BadMade, "made", is_made_of_some),
    "view": Wrong(refusals.BadView, "view"),
    "row": Wrong(refusals.BadRow, "index"),
    "other_stand": STAND_ASKED,
    "lot": Wrong(refusals.BadLot, "index", is_lot),
    "pairs": Wrong(refusals.BadPairs, "index", is_pairs),
    "first": PATH,
    "second": PATH,
    "sums": Wrong(refusals.BadSums, "sums"),
    "names": Wrong(refusals.BadNames, "names"),
    "pieces": Wrong(refusals.BadPieces, "index"),
    "prices": Wrong(refusals.BadPrices, "prices"),
    "order": Wrong(refusals.BadOrder, "order", is_photo),
    "wishes": Wrong(refusals.BadWishes, "index", is_wishes),
    "steps": Wrong(refusals.BadSteps, "steps", is_plain_number),
    "more": Wrong(refusals.BadMore, "more", is_integer),
    "asker": Wrong(errors.BadChooser, "thing", callable),
    "top": Wrong(refusals.BadTop, "top", is_plain_number),
    "desk": Wrong(refusals.BadDesk, "thing"),
    "text": Wrong(refusals.BadText, "line"),
}
# Where a function lets less of a parameter than others.
SPECIAL = {
    ("stand_at", "number"): Wrong(errors.BadNumber, "number", is_small_number),
    ("fewest_changes", "later"): Wrong(errors.BadNotes, "notes"),
    ("row_of_notes", "later"): Wrong(errors.BadNotes, "notes"),
    ("stand_of_laps", "laps"): Wrong(refusals.BadLaps, "laps"),
    ("photo_turned", "many"): Wrong(errors.BadMany, "many", lambda thing: is_plain_number(thing) and thing < 3),
    ("can_be_between", "many"): Wrong(errors.BadMany, "many", is_plain_number),
    ("caught_at", "times"): Wrong(errors.BadTimes, "times", is_times),
    ("stand_without", "part"): Wrong(errors.BadPart, "part"),
    ("without_fault", "part"): Wrong(errors.BadPart, "part"),
    ("stand_of_mixed", "nets"): Wrong(errors.BadNets, "nets", lambda thing: thing == {"a": 0}),
    ("with_total", "total"): Wrong(errors.BadTotal, "total", is_integer),
    ("count_joined", "total"): Wrong(errors.BadTotal, "total", is_integer),
    ("run_chosen", "many"): Wrong(errors.BadMany, "many", is_plain_number),
}
# Errors that are due ahead of those of parameters that stand ahead, where there is a parameter of a name.
AHEAD = {"notes": ["path", "most"], "second": ["first", "second"]}


class Call:
    """A function, right arguments by name, in the order of its parameters, and what it then tells."""

    def __init__(self, function, told, **arguments):
        self.function = function
        self.told = told
        self.arguments = arguments
        self.refused = {name: self.wrong(name) for name in arguments}

    def name(self):
        return self.function.__name__

    def wrong(self, name):
        if name == "later" and "photo" in self.arguments:
            return PHOTO_ASKED
        return SPECIAL.get((self.name(), name), REFUSED[name])

    def in_order(self):
        """The parameters in the order in which their errors are due."""
        ahead = [name for known, names in AHEAD.items() if known in self.arguments for name in names]
        return ahead + [name for name in self.refused if name not in ahead]


def call(function, told, **arguments):
    return Call(function, told, path=ABC, **arguments)


CALLS = [
    call(paths.is_stand, True, thing=STAND),
    call(paths.first_stand, FIRST),
    call(paths.right_ahead, "c", stand=STAND, walker="a"),
    call(paths.going_round, ["b", "a", "c"], stand=STAND, walker="b"),
    call(paths.overtaken, {"a": 5, "b": 0, "c": -2}, stand=STAND, one="a", other="c"),
    call(paths.net, 2, stand=STAND, one="a", other="b"),
    call(paths.turned, (Path(["c", "b", "a"]), {"c": 3, "b": 2, "a": -2}), stand=STAND),
    call(runs.run_end, {"a": 4, "b": 0, "c": -1}, stand=OTHER_STAND, run=RUN),
    call(runs.is_one_way, True, run=RUN),
    call(runs.blocks_end, {"a": 2002, "b": -999, "c": -1000}, stand=OTHER_STAND, blocks=[(RUN, 1000)]),
    call(tables.table, TABLE, stand=STAND),
    call(tables.stand_of_table, STAND, table=TABLE),
    call(tables.table_clash, None, table=TABLE),
    call(tables.overtook, ["b", "c"], stand=STAND, walker="a"),
    call(tables.overtaken_by, ["a", "b"], stand=STAND, walker="c"),
    call(tables.in_all, 5, stand=STAND),
    call(tables.of_some, (Path(["a", "c"]), {"a": 2, "c": -1}), stand=STAND, some=["c", "a"]),
    call(tables.with_one_more, (Path(["a", "b", "c", "d"]), {"a": 3, "b": -2, "c": -4, "d": 9}),
         stand=STAND, name="d", nets={"a": 1, "b": 2, "c": 3}),
    call(tables.one_more_clash, ("a", "c"), stand=STAND, name="d", nets={"a": 1, "b": 3, "c": 4}),
    call(madenumbers.numbers_made, MADE, stand=STAND),
    call(madenumbers.numbers_suffered, SUFFERED, stand=STAND),
    call(madenumbers.stand_of_made, STAND, numbers=MADE),
    call(madenumbers.stand_of_suffered, STAND, numbers=SUFFERED),
    call(madenumbers.laps_off, (1, {"a": 3, "b": 0, "c": 0}), numbers=MADE),
    call(madenumbers.lists_fault, ("suffered", "b"), numbers=MADE, others={"a": 0, "b": 3, "c": 2}),
    call(moreleft.with_more, ["a", "b"], stand=FIRST, left=MADE),
    call(moreleft.made_run, [("a", "b"), ("a", "c"), ("a", "b"), ("a", "c"), ("b", "c")], numbers=MADE),
    call(moreleft.is_made_run, False, numbers=MADE, thing=[("a", "b")]),
    call(moreleft.numbers_behind, {"a": 4, "b": 0, "c": 0}, numbers=MADE, one="c", other="b"),
    call(netnumbers.nets_of, NETS, stand=STAND),
    call(netnumbers.stand_of_nets, STAND, nets=NETS),
    call(netnumbers.nets_clash, ("together", "a", "b"), nets={"a": 1, "b": 0, "c": -1}),
    call(againandagain.again, {"a": 3, "b": 4, "c": -4}, stand=STAND, times=2),
    call(againandagain.and_then, {"a": 2, "b": 0, "c": 1},
         stand={"a": 1, "b": 0, "c": 2}, later={"a": 0, "b": 2, "c": 1}),
    call(againandagain.undone, {"a": 1, "b": -3, "c": 5}, stand=STAND),
    call(againandagain.circles, [(["a", "b"], 3), (["c"], -3)], stand=STAND),
    call(againandagain.times_back, 2, stand=STAND),
    call(againandagain.for_ever, (3, 2), stand=STAND, one="a", other="c"),
    call(againandagain.fastest, ["a", "b"], stand=STAND),
    call(shortestruns.fewest, 5, stand=FIRST, later=STAND),
    call(shortestruns.first_ones, [("a", "b"), ("b", "c")], stand=FIRST, later=STAND),
    call(shortestruns.last_ones, [("a", "b"), ("b", "c")], stand=FIRST, later=STAND),
    call(shortestruns.shortest_run, [([("a", "c"), ("a", "b")], 1000)],
         stand=OTHER_STAND, later={"a": 2002, "b": -999, "c": -1000}),
    call(shortestruns.is_shortest, True, stand=OTHER_STAND, later=STAND, thing=[(RUN, 1)]),
    call(shortestruns.is_between, True, stand=FIRST, later=STAND, mid=OTHER_STAND),
    call(shortestruns.stand_after, STAND, stand=FIRST, later=STAND, many=5),
    call(steps.goes_ahead, True, stand=FIRST, later=STAND, step=("a", "c", 1), another=("a", "b", 2)),
    call(steps.shown_behind, {"a": 0, "b": 2, "c": 1},
         stand=FIRST, later=STAND, step=("a", "b", 1), another=("b", "c", 1)),
    call(steps.count_runs, 3, stand=FIRST, later=STAND),
    call(steps.runs_between, [[("a", "b"), ("a", "c"), ("a", "b"), ("a", "c"), ("b", "c")],
                              [("a", "b"), ("a", "c"), ("b", "c"), ("a", "c"), ("a", "b")],
                              [("b", "c"), ("a", "c"), ("a", "b"), ("a", "c"), ("a", "b")]], stand=FIRST, later=STAND),
    call(counted.count_stands, 9, total=3),
    call(counted.count_up_to, 31, total=4),
    call(counted.count_idle, 3, total=3, idle=2),
    call(counted.mean_idle, (4, 3), total=3),
    call(counted.chance_made, (2, 9), total=3, number=1),
    call(counted.chances_made, {0: (4, 9), 1: (2, 9), 2: (2, 9), 3: (1, 9)}, total=3),
    call(countbounds.count_between, 7, bounds={"a": (0, 1), "b": (0, 1), "c": (0, 1)}),
    call(countbounds.count_by_teams, 2, teams=[["a", "b"], ["c"]], totals=[2, 1]),
    call(numbered.stand_at, {"a": 2, "b": 0, "c": 1}, total=2, number=5),
    call(numbered.stand_number, 5, stand={"a": 2, "b": 0, "c": 1}),
    call(numbered.drawn_stand, {"a": 2, "b": 0, "c": 1}, total=2, chooser=last_one),
    call(commons.is_earlier, True, stand=OTHER_STAND, later=STAND),
    call(commons.last_common, {"a": 1, "b": 0, "c": 2}, stands=STANDS),
    call(commons.first_common, {"a": 2, "b": 1, "c": 0}, stands=STANDS),
    call(commons.common_ring, [("a", 0), ("c", 1)], stands=STANDS_OF_A_RING),
    call(commons.is_common_ring, True, stands=STANDS_OF_A_RING, thing=[("a", 0), ("c", 1)]),
    call(commons.to_common, [0, 2], stands=STANDS),
    call(commons.earlier_ones, [{"a": 0, "b": 1, "c": 2}, {"a": 0, "b": 2, "c": 1}, {"a": 1, "b": 0, "c": 2},
                                {"a": 1, "b": 2, "c": 0}, {"a": 2, "b": 0, "c": 1}, {"a": 2, "b": 1, "c": 0}],
         stand=OTHER_STAND),
    call(commonrows.holding_row, ["b", "c"], stands=STANDS, one="b", other="c"),
    call(commonrows.forcing_row, ["a", "b"], stands=STANDS, one="a", other="b"),
    call(commonrows.is_holding_row, True, stands=STANDS, one="b", other="c", thing=["b", "c"]),
    call(commonrows.is_forcing_row, True, stands=STANDS, one="a", other="b", thing=["a", "b"]),
    call(notes.notes, NOTES, stand=STAND, most=2),
    call(notes.noted, {"a": 4, "b": 1, "c": 0}, stand=STAND, most=2),
    call(notes.notes_of_noted, NOTES, noted={"a": 4, "b": 1, "c": 0}, most=2),
    call(notes.noted_fault, (2, 3), noted={"a": 3, "b": 0, "c": 0}, most=1),
    call(notes.most_lacking, 2, part={"b": 1, "c": 0}, most=1),
    call(capped.least_stand, {"a": 2, "b": 1, "c": 0}, noted={"a": 2, "b": 1, "c": 0}, most=1),
    call(capped.run_of_noted, [("a", "b")], noted={"a": 1, "b": 0, "c": 0}, most=1),
    call(notecounts.count_notes, 49, most=2),
    call(notecounts.count_noted, 6, most=1, number=3),
    call(notecounts.noted_at, {"a": 0, "b": 0, "c": 1}, most=1, index=1),
    call(notecounts.noted_index, 1, noted={"a": 0, "b": 0, "c": 1}, most=1),
    call(shownotes.are_notes, True, thing=NOTES, most=2),
    call(shownotes.notes_clash, None, notes=NOTES, most=2),
    call(shownotes.last_stand, {"a": 4, "b": -3, "c": 2}, notes=ENDED_NOTES, most=2),
    call(shownotes.free_lot, ["a"], notes=FREE_NOTES, most=2),
    call(shownotes.groups, [["a"], ["b", "c"]], notes=FREE_NOTES, most=2),
    call(shownotes.count_ended, 25, most=2),
    call(shownotes.net_span, (2, 3), notes=ENDED_NOTES, most=2, one="a", other="b"),
    call(shownotes.stands_showing, [{"a": 3, "b": -2, "c": 2}, {"a": 4, "b": -3, "c": 2}], notes=ENDED_NOTES, most=2),
    call(noterows.fewest_changes, 2, notes=NOTES, later=NEXT_NOTES, most=2),
    call(noterows.row_of_notes, [NOTES, FREE_NOTES, NEXT_NOTES], notes=NOTES, later=NEXT_NOTES, most=2),
    call(noterows.next_changes, [("b", "a"), ("b", "c"), ("c", "b")], notes=NOTES, most=2),
    call(noterows.change_shown, {"a": 5, "b": 0, "c": -2}, notes=NOTES, most=2, one="b", other="c"),
    call(photos.photo_of, ["b", "a", "c"], stand=STAND),
    call(photos.is_photo, True, thing=PHOTO),
    call(photos.laps_of, {"a": 1, "b": 0, "c": -1}, stand=STAND),
    call(photos.stand_of_laps, STAND, photo=["b", "a", "c"], laps={"a": 1, "b": 0, "c": -1}),
    call(photos.are_gains, True, photo=PHOTO, later=LATER_PHOTO, thing={"a": 2, "b": 0, "c": -2}),
    call(photos.overtakings_of, 3, photo=PHOTO, gains={"a": 2, "b": 0, "c": -2}),
    call(photos.photo_turned, ["c", "a", "b"], photo=PHOTO, many=2),
    call(fewbetween.fewest_between, 1, photo=PHOTO, later=LATER_PHOTO),
    call(fewbetween.fewest_gains, {"a": -1, "b": 0, "c": 1}, photo=PHOTO, later=LATER_PHOTO),
    call(fewbetween.count_fewest, 3, photo=PHOTO, later=["b", "c", "a"]),
    call(fewbetween.surely_between, [("c", "a")], photo=PHOTO, later=LATER_PHOTO),
    call(fewbetween.perhaps_between, [("c", "a")], photo=PHOTO, later=LATER_PHOTO),
    call(fewbetween.can_be_between, True, photo=PHOTO, later=LATER_PHOTO, many=3),
    call(fewbetween.fewest_turned, (0, 2), photo=PHOTO, later=["b", "c", "a"]),
    call(fewbetween.fewest_through, 2, photos=[PHOTO, LATER_PHOTO, PHOTO]),
    call(walks.is_walk, True, thing=WALK),
    call(walks.stand_then, {"a": 1, "b": 0, "c": 2}, walk=WALK, hour=3),
    call(walks.caught_at, (7, 1), walk=WALK, one="a", other="b", times=2),
    call(walks.next_catch, ((2, 1), [("a", "b")]), walk=WALK, hour=2),
    call(walks.as_at_first, (5, 1), walk=WALK),
    call(walks.shown, ((2, 1), (7, 2)), walk=WALK, stand={"a": 1, "b": 0, "c": 2}),
    call(walks.walk_to, (3, {"a": 0, "b": 1, "c": 2}, {"a": 7, "b": 2, "c": 0}), stand=STAND),
    call(pacelooks.room, 4, lap=10, posts=POSTS, looks=LOOKS, one="a", other="b"),
    call(pacelooks.paces_for, {"a": 2, "b": 0, "c": 0}, lap=10, posts=POSTS, looks=LOOKS),
    call(pacelooks.pace_ring, ["b", "a"], lap=10, posts=POSTS, looks=LOOKS_OF_A_RING),
    call(pacelooks.pace_span, (2, 4), lap=10, posts=POSTS, looks=LOOKS, one="a", other="b"),
    call(pacelooks.surely_faster, [("a", "b")], lap=10, posts=POSTS, looks=LOOKS),
    call(netspans.fits, True, spans=SPANS, thing={"a": 2, "b": 1, "c": 0}),
    call(netspans.span_room, 2, spans=SPANS, x="b", y="c"),
    call(netspans.stand_within, {"a": 2, "b": 1, "c": 0}, spans=SPANS),
    call(netspans.spans_ring, ["c", "b", "a"], spans=SPANS_OF_A_RING),
    call(netspans.net_bounds, (1, None), spans=SPANS, one="a", other="c"),
    call(netspans.sure_overtakers, [("a", "b"), ("a", "c"), ("b", "c")], spans=SPANS),
    call(netspans.place_span, (2, None), spans=SPANS, walker="a"),
    call(withincounts.count_fits, 3, spans=FEW_SPANS),
    call(withincounts.all_fits, [FIRST, {"a": 0, "b": 2, "c": 1}, {"a": 1, "b": 0, "c": 2}], spans=FEW_SPANS),
    call(withincounts.spans_of, {("a", "b"): (0, 2), ("a", "c"): (0, 2), ("b", "a"): (-2, 0), ("b", "c"): (0, 1),
                                 ("c", "a"): (-2, 0), ("c", "b"): (-1, 0)}, stands=[STAND, FIRST]),
    call(indoubt.wrong_numbers, [("made", "b", 1), ("suffered", "c", 2)],
         numbers={"a": 4, "b": 0, "c": 0}, others=SUFFERED),
    call(indoubt.wrong_nets, [("b", -2), ("c", -3)], nets={"a": 4, "b": -1, "c": -2}),
    call(indoubt.wrong_pairs,
         [("a", "b", 3), ("a", "b", 4), ("a", "c", 2), ("a", "c", 3), ("b", "c", 2), ("b", "c", 3)],
         table={**TABLE, ("a", "c"): 4, ("c", "a"): -4}),
    call(halftold.stand_without, STAND, part={"a": (4, 0), "b": (1, 2)}),
    call(halftold.without_fault, ("numbers", "b"), part={"a": (4, 0), "b": (2, 3)}),
    call(halftold.stand_of_mixed, STAND, made={"b": 1, "c": 0}, nets={"a": 4}),
    call(views.view, VIEW, stand=STAND, walker="a"),
    call(views.place_by, 4, walker="a", view=VIEW),
    call(views.count_of_view, 2, walker="a", view=VIEW),
    call(views.stand_seen, {"a": 4, "b": -1, "c": 0}, walker="a", view=VIEW, row=["b", "c"]),
    call(observers.arcs, {"a": ["c", "b"]}, stand=STAND, lot=["a"]),
    call(observers.are_alike_for, True, stand=STAND, other_stand={"a": 4, "b": -1, "c": 0}, lot=["a"]),
    call(observers.count_alike, 2, stand=STAND, lot=["a"]),
    call(observers.nets_known, [0, 1], stand=STAND, lot=["a"], one="b", other="c"),
    call(observers.seams_left, [("c", "b")], stand=STAND, lot=["a"]),
    call(observers.knows_all, True, stand=STAND, lot=["c", "a"]),
    call(observers.tells_all, True, stand=STAND, lot=["a"], pairs=[("b", "c")]),
    call(observers.fewest_observers, ["a", "b"], stand=STAND),
    call(laps.is_within, True, stand=STAND, laps=2),
    call(laps.most_laps, 2, stand=STAND),
    call(laps.first_beyond, ("a", "b"), stand=STAND, laps=1),
    call(laps.leads, {"a": 5, "b": 1, "c": 0}, stand=STAND),
    call(laps.may_overtake, [("a", "b"), ("b", "c"), ("c", "a")], stand=FIRST, laps=1),
    call(lapcounts.count_within, 37, laps=2),
    call(lapcounts.count_just, 24, laps=2),
    call(lapcounts.stands_within, [FIRST], laps=0),
    call(lapcounts.last_within, [{"a": -2, "b": 3, "c": 2}, {"a": 0, "b": -1, "c": 4}, {"a": 2, "b": 1, "c": 0}],
         laps=1),
    call(lapcounts.most_within, 5, laps=2),
    call(lapcounts.busiest, {"a": -4, "b": 4, "c": 3}, laps=2),
    call(joinings.with_total, (Path(["a", "b", "c", "d"]), {"a": 2, "b": 0, "c": -1, "d": 5}),
         stand=OTHER_STAND, name="d", total=2),
    Call(joinings.joint_path, Path(["a", "b", "c", "x", "y"]), first=ABC, second=XY),
    Call(joinings.joined, {"a": 7, "b": 5, "c": 4, "x": -4, "y": -2},
         first=ABC, stand=OTHER_STAND, second=XY, other_stand=FIRST_XY, sums=SUMS),
    Call(joinings.joint_clash, ("a", "b"),
         first=ABC, stand=OTHER_STAND, second=XY, other_stand=FIRST_XY, sums={"a": 3, "b": 4, "c": 4}),
    Call(joinings.count_joined, 2, first=ABC, stand=OTHER_STAND, second=XY, other_stand=FIRST_XY, total=13),
    call(teams.spread, (Path(["a", "a2", "b", "c"]), {"a": 4, "a2": 5, "b": -1, "c": -2}),
         stand=STAND, names={"a": ["a", "a2"], "b": ["b"], "c": ["c"]}),
    call(teams.gathered, (Path(["a", "c"]), {"a": 0, "c": 1}), stand=FIRST, pieces=[["a", "b"], ["c"]]),
    call(teams.team_clash, ("met", "b", "c"), stand=STAND, pieces=[["a"], ["b", "c"]]),
    call(teams.begun_with, (Path(["b", "c", "a"]), {"b": -1, "c": -2, "a": 6}), stand=STAND, walker="b"),
    call(pricelists.price_between, 9, prices=PRICES, stand=FIRST, later=STAND),
    call(priceorders.cheapest_in_order, (3, {"a": 1, "b": 0, "c": 2}), prices=PRICES, order=ORDER, wishes=WISHES),
    call(priceorders.order_ring, [1, 0], order=ORDER, wishes=WISHES_OF_A_RING),
    call(priceorders.is_order_ring, True, order=ORDER, wishes=WISHES_OF_A_RING, thing=[0, 1]),
    call(priceweights.price_weights, WEIGHTS, prices=PRICES, order=ORDER, wishes=WISHES),
    call(priceweights.are_price_weights, True, prices=PRICES, order=ORDER, wishes=WISHES, thing=WEIGHTS),
    call(priceweights.cheapest, (3, {"a": 1, "b": 0, "c": 2}), prices=PRICES, wishes=WISHES),
    call(priceweights.cheapest_order, ["a", "c", "b"], prices=PRICES, wishes=WISHES),
    call(drawnsteps.further_on, 2, stand=FIRST, one="a", other="c"),
    call(drawnsteps.chance_grown, (2, 9), steps=2, more=1),
    call(drawnsteps.mean_square, (4, 3), steps=2),
    call(drawnsteps.drawn_run, ([("c", "a"), ("c", "b")], {"a": -1, "b": 0, "c": 4}),
         stand=FIRST, steps=2, chooser=last_one),
    call(pairsteps.chance_first, (3, 5), stand=FIRST, one="a", other="b"),
    call(pairsteps.mean_steps, (3, 1), stand=FIRST, one="a", other="b"),
    call(pairsteps.chances_further, {1: (0, 1), 2: (1, 1)}, stand=FIRST, one="a", other="b", steps=1),
    call(pairsteps.mean_net, (1, 3), stand=FIRST, one="a", other="b", steps=1),
    call(callers.run_chosen, [("a", "b"), ("a", "c"), ("a", "b")], stand=FIRST, chooser=first_of_those, many=3),
    call(callers.run_to_numbers, [("a", "b"), ("a", "c"), ("a", "b"), ("a", "c"), ("b", "c")],
         numbers=MADE, chooser=first_of_those),
    call(callers.run_to_notes, [("b", "c"), ("a", "c"), ("a", "b")],
         noted={"a": 2, "b": 1, "c": 0}, most=1, chooser=first_of_those),
    call(askers.run_asker, (["a", "b"], STAND), stand=STAND, asker=c_made_none),
    call(askers.beat_asker, {"a": -1, "b": 1, "c": 3}, asker=c_made_none, top=1),
    Call(desktexts.write_desk, TEXT, desk=held_desk()),
    Call(desktexts.read_desk, held_desk(), text=TEXT),
]

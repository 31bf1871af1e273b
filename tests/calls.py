"""Every function of the interface with right arguments, and what is refused of each parameter."""

import ringwalkers.errors as errors
from ringwalkers import madenumbers, moreleft, netnumbers, paths, runs, tables
from ringwalkers.paths import Path

ABC = Path(["a", "b", "c"])
FIRST = {"a": 0, "b": 1, "c": 2}
STAND = {"a": 4, "b": 0, "c": -1}
OTHER_STAND = {"a": 2, "b": 1, "c": 0}
RUN = [("a", "c"), ("a", "b")]
TABLE = {("a", "b"): 2, ("a", "c"): 2, ("b", "a"): -2, ("b", "c"): 1, ("c", "a"): -2, ("c", "b"): -1}
MADE = {"a": 4, "b": 1, "c": 0}
SUFFERED = {"a": 0, "b": 2, "c": 3}
NETS = {"a": 4, "b": -1, "c": -3}


def is_plain_number(thing):
    return isinstance(thing, int) and not isinstance(thing, bool) and thing >= 0


def is_walker(thing):
    return isinstance(thing, str) and thing in ("a", "b", "c")


def is_any(thing):
    return True


def is_none(thing):
    return False


def is_list(thing):
    return isinstance(thing, (list, tuple))


def is_empty_list(thing):
    return is_list(thing) and len(thing) == 0


def is_some(thing):
    if not is_list(thing) or len(thing) < 2 or not all(is_walker(each) for each in thing):
        return False
    return len(set(thing)) == len(thing)


def is_new_name(thing):
    return isinstance(thing, str) and thing in ("d", "ab", "abc", "walker")


class Wrong:
    """What is refused of a parameter: the error's class, the name under which it keeps the thing, what is right.

    An error that keeps an index is due with 0 for what is no list.
    """

    def __init__(self, error, field, is_right=is_none):
        self.error = error
        self.field = field
        self.is_right = is_right


PATH = Wrong(errors.BadPath, "thing", lambda thing: isinstance(thing, Path))
STAND_ASKED = Wrong(errors.BadStand, "stand")
WALKER = Wrong(errors.NoWalker, "walker", is_walker)
NUMBERS = Wrong(errors.BadNumbers, "numbers")

REFUSED = {
    "path": PATH,
    "stand": STAND_ASKED,
    "walker": WALKER,
    "one": WALKER,
    "other": WALKER,
    "thing": Wrong(None, None, is_any),
    "run": Wrong(errors.BadRun, "index", lambda thing: is_empty_list(thing) or thing == [["a", "b"]]),
    "blocks": Wrong(errors.BadBlocks, "index", lambda thing: is_empty_list(thing) or thing == [([], 1)]),
    "table": Wrong(errors.BadTable, "table"),
    "some": Wrong(errors.BadSome, "index", is_some),
    "name": Wrong(errors.BadName, "name", is_new_name),
    "nets": Wrong(errors.BadNets, "nets"),
    "numbers": NUMBERS,
    "left": Wrong(errors.BadLeft, "left"),
    "others": Wrong(errors.BadOthers, "others"),
}


class Call:
    """A function, right arguments by name, in the order of its parameters, and what it then tells."""

    def __init__(self, function, told, **arguments):
        self.function = function
        self.told = told
        self.arguments = arguments
        self.refused = {name: REFUSED[name] for name in arguments}

    def name(self):
        return self.function.__name__


def call(function, told, **arguments):
    return Call(function, told, path=ABC, **arguments)


CALLS = [
    call(paths.is_stand, True, thing=STAND),
    call(paths.first_stand, FIRST),
    call(paths.right_ahead, "c", stand=STAND, walker="a"),
    call(paths.going_round, ["b", "a", "c"], stand=STAND, walker="b"),
    call(paths.overtaken, {"a": 5, "b": 0, "c": -2}, stand=STAND, one="a", other="c"),
    call(paths.net, 2, stand=STAND, one="a", other="b"),
    call(paths.turned, (Path(["c", "b", "a"]), {"c": 3, "b": 2, "a": -2}), stand=STAND),
    call(runs.run_end, {"a": 4, "b": 0, "c": -1}, stand=OTHER_STAND, run=RUN),
    call(runs.is_one_way, True, run=RUN),
    call(runs.blocks_end, {"a": 2002, "b": -999, "c": -1000}, stand=OTHER_STAND, blocks=[(RUN, 1000)]),
    call(tables.table, TABLE, stand=STAND),
    call(tables.stand_of_table, STAND, table=TABLE),
    call(tables.table_clash, None, table=TABLE),
    call(tables.overtook, ["b", "c"], stand=STAND, walker="a"),
    call(tables.overtaken_by, ["a", "b"], stand=STAND, walker="c"),
    call(tables.in_all, 5, stand=STAND),
    call(tables.of_some, (Path(["a", "c"]), {"a": 2, "c": -1}), stand=STAND, some=["c", "a"]),
    call(tables.with_one_more, (Path(["a", "b", "c", "d"]), {"a": 3, "b": -2, "c": -4, "d": 9}),
         stand=STAND, name="d", nets={"a": 1, "b": 2, "c": 3}),
    call(tables.one_more_clash, ("a", "c"), stand=STAND, name="d", nets={"a": 1, "b": 3, "c": 4}),
    call(madenumbers.numbers_made, MADE, stand=STAND),
    call(madenumbers.numbers_suffered, SUFFERED, stand=STAND),
    call(madenumbers.stand_of_made, STAND, numbers=MADE),
    call(madenumbers.stand_of_suffered, STAND, numbers=SUFFERED),
    call(madenumbers.laps_off, (1, {"a": 3, "b": 0, "c": 0}), numbers=MADE),
    call(madenumbers.lists_fault, ("suffered", "b"), numbers=MADE, others={"a": 0, "b": 3, "c": 2}),
    call(moreleft.with_more, ["a", "b"], stand=FIRST, left=MADE),
    call(moreleft.made_run, [("a", "b"), ("a", "c"), ("a", "b"), ("a", "c"), ("b", "c")], numbers=MADE),
    call(moreleft.is_made_run, False, numbers=MADE, thing=[("a", "b")]),
    call(moreleft.numbers_behind, {"a": 4, "b": 0, "c": 0}, numbers=MADE, one="c", other="b"),
    call(netnumbers.nets_of, NETS, stand=STAND),
    call(netnumbers.stand_of_nets, STAND, nets=NETS),
    call(netnumbers.nets_clash, ("together", "a", "b"), nets={"a": 1, "b": 0, "c": -1}),
]

"""Objects of whatever kind, as section 2 of the document tells them."""

from ringwalkers.errors import BadStand, WalkError
from ringwalkers.paths import Path, first_stand


def nested_list(depth):
    thing = []
    for _ in range(depth):
        thing = [thing]
    return thing


def nested_tuple(depth):
    thing = ()
    for _ in range(depth):
        thing = (thing,)
    return thing


def nested_dict(depth):
    thing = {}
    for _ in range(depth):
        thing = {"a": thing}
    return thing


def some_function(thing):
    return thing


ANYTHING = [
    0, 1, -1, 2, 7, 10 ** 30, -10 ** 30, True, False, None,
    "", "a", "b", "d", "A", "ab", "a b", "abc", "1a", "a_", "abcdefghi", "\n", "walker",
    [], (), {}, [[]], ((),), [()], [{}], [None], [True], [0], [0, 1, 2], ["a"], ("a",), ["a", "b"], ("a", "b"),
    ["a", "b", "c"], ["a", "b", "c", "a"], [["a", "b"]], [("a", "b"), "c"], [["a", "b", 1]], ("a", "b", 1),
    ("a", "b", True), ([["a", "b"]], 1), [([], 1)], "ab", ["ab"],
    {"a": 0}, {"a": 0, "b": 1}, {"a": 0, "b": 1, "d": 2}, {"a": None, "b": None, "c": None},
    {"a": True, "b": False, "c": 2}, {"a": "0", "b": "1", "c": "2"}, {"a": [0], "b": [1], "c": [2]},
    {"a": 0, "b": 0, "c": None}, {"a": 0, "b": 1, "c": 2, "d": 3}, {"a": 0, "b": 1, "c": 2, None: 3},
    {0: "a", 1: "b", 2: "c"}, {None: 1}, {True: 1}, {(): ()}, {("a", "b"): 1}, {("a", "b"): 1, ("b", "a"): -1},
    {some_function: 1}, {(1, ("a", None)): {"a": []}}, {"a": {"b": {"c": 0}}},
    some_function, len, lambda: None, Path, BadStand, Path(["a", "b"]), Path(["a", "b", "c"]), WalkError("why"),
    BadStand(None), [Path(["a", "b"])], {"a": Path(["a", "b"]), "b": 1, "c": 2}, (some_function, Path), first_stand,
    nested_list(50), nested_tuple(50), nested_dict(50), [nested_dict(49), "b"], {"a": nested_list(40), "b": 1, "c": 2},
]

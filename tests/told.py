"""Strict comparison of told things: their kinds and the orders of dicts count."""

import unittest

from ringwalkers.paths import Path


def is_same(got, expected):
    """Whether a told thing is the expected one, of the very kinds, dicts in the same order."""
    if type(got) is not type(expected):
        return False
    if isinstance(expected, Path):
        return got.walkers() == expected.walkers()
    if isinstance(expected, dict):
        return is_same(list(got.items()), list(expected.items()))
    if isinstance(expected, (list, tuple)):
        return len(got) == len(expected) and all(is_same(x, y) for x, y in zip(got, expected))
    return got == expected


def shape(thing):
    """A thing as text, for messages: Paths by their walkers."""
    if isinstance(thing, Path):
        return "Path({})".format(thing.walkers())
    if isinstance(thing, tuple):
        return "({},)".format(", ".join(shape(each) for each in thing))
    if isinstance(thing, list):
        return "[{}]".format(", ".join(shape(each) for each in thing))
    return repr(thing)


class ToldCase(unittest.TestCase):
    def assertTold(self, got, expected, msg=None):
        if not is_same(got, expected):
            self.fail("{} is not {}{}".format(shape(got), shape(expected), "" if msg is None else ": {}".format(msg)))

    def assertRefused(self, error, fields, work, *args, **named):
        """The call raises an error of just this class, with the very things under the names of fields."""
        try:
            answer = work(*args, **named)
        except ValueError as raised:
            self.assertIs(type(raised), error)
            self.assertEqual(sorted(vars(raised)), sorted(fields))
            for field, thing in fields.items():
                kept = getattr(raised, field)
                if isinstance(thing, (int, str)) and not isinstance(thing, bool):
                    self.assertIs(type(kept), type(thing), field)
                    self.assertEqual(kept, thing, field)
                else:
                    self.assertIs(kept, thing, field)
        else:
            self.fail("{} was not raised, but {} told".format(error.__name__, shape(answer)))

    def assertRefusedTelling(self, error, fields, work, *args, **named):
        """The call raises an error of just this class, with things like these under the names of fields."""
        with self.assertRaises(error) as caught:
            work(*args, **named)
        self.assertIs(type(caught.exception), error)
        self.assertTold(vars(caught.exception), fields)

"""What kind a thing is: asked of any object, before anything is done with it."""

FIRST_SIGNS = "abcdefghijklmnopqrstuvwxyz"
LATER_SIGNS = "abcdefghijklmnopqrstuvwxyz0123456789"
LONGEST_NAME = 8


def is_integer(thing):
    return isinstance(thing, int) and not isinstance(thing, bool)


def is_number(thing):
    return is_integer(thing) and thing >= 0


def is_times(thing):
    return is_integer(thing) and thing >= 1


def is_list(thing):
    return isinstance(thing, (list, tuple))


def is_list_of(many, thing):
    return is_list(thing) and len(thing) == many


def is_name(thing):
    if not isinstance(thing, str) or not 1 <= len(thing) <= LONGEST_NAME:
        return False
    return thing[0] in FIRST_SIGNS and all([sign in LATER_SIGNS for sign in thing])


def is_walker(names, thing):
    # Only strings may be looked for: other things may have no order and no hash.
    return isinstance(thing, str) and thing in names


def is_two_walkers(names, thing):
    """Whether a thing is a pair of two unlike walkers."""
    if not is_list_of(2, thing):
        return False
    one, other = thing
    return is_walker(names, one) and is_walker(names, other) and one != other


def is_dict_of(keys, thing, is_right):
    """Whether a thing is a dict from just these keys to things that are right."""
    if not isinstance(thing, dict) or len(thing) != len(keys):
        return False
    return all([key in thing and is_right(thing[key]) for key in keys])


def is_dict_but_one(names, thing, is_right):
    """Whether a thing is a dict from all walkers but one to things that are right."""
    if not isinstance(thing, dict) or len(thing) != len(names) - 1:
        return False
    return all([is_walker(names, name) and is_right(value) for name, value in thing.items()])


def first_stranger(names, things):
    """The index of the first thing that is none of the walkers or stood before, None if there is none."""
    for index, thing in enumerate(things):
        if not is_walker(names, thing) or thing in things[:index]:
            return index
    return None

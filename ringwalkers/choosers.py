"""What may be handed in to be called."""

from ringwalkers.desks import Desk
from ringwalkers.errors import BadChooser, WalkError
from ringwalkers.paths import Path


def need_chooser(chooser):
    if chooser is None or isinstance(chooser, (int, str, list, tuple, dict)) or is_of_package(chooser):
        raise BadChooser(chooser)


def is_of_package(thing):
    return isinstance(thing, Path) or isinstance(thing, Desk) or isinstance(thing, WalkError)

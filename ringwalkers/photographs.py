"""Photos as plain lists: what the files that tell of them share."""

from ringwalkers.kinds import first_stranger, is_list_of
from ringwalkers.places import pairs_ahead
from ringwalkers.refusals import BadPhoto


def need_photo(names, photo):
    if not is_photograph(names, photo):
        raise BadPhoto(photo)


def is_photograph(names, thing):
    """Whether any object is a list of just all walkers, each once."""
    return is_list_of(len(names), thing) and first_stranger(names, thing) is None


def rests_in(photo):
    """The rest of each walker."""
    return {name: rest for rest, name in enumerate(photo)}


def overtakings_by(many, one_rest, other_rest, one_gain, other_gain):
    """How often one overtakes other, net, by such gains from such rests, so many walking."""
    return (one_rest + one_gain - other_rest - other_gain) // many - (one_rest - other_rest) // many


def fewest_by(names, rests, gains):
    """How many overtakings a run has at least by which the places grow so."""
    many = len(names)
    return sum([abs(overtakings_by(many, rests[one], rests[other], gains[one], gains[other]))
                for one, other in pairs_ahead(names)])


def turned_by(photo, many):
    """The photo begun with the one at the index many."""
    return list(photo[many:]) + list(photo[:many])

"""Newcomers, and two paths that become one: one number each tells how."""

from ringwalkers.checks import need_stand
from ringwalkers.errors import BadTotal
from ringwalkers.kinds import is_dict_of, is_integer
from ringwalkers.paths import Path, walkers_of
from ringwalkers.places import add_nets, nets_among, pairs_ahead, placed_by
from ringwalkers.refusals import BadSums, CommonWalker
from ringwalkers.tables import need_new_name, with_newcomer


def with_total(path, stand, name, total):
    """The path with one more walker at its end, and its stand by which the new one's nets are total together."""
    names = walkers_of(path)
    need_stand(names, stand)
    need_new_name(names, name)
    need_whole_total(total)
    return with_newcomer(names, stand, name, nets_by_total(names, stand, total))


def need_whole_total(total):
    if not is_integer(total):
        raise BadTotal(total)


def nets_by_total(names, places, total):
    """The nets of somebody from outside over all of these walkers, if they are total together."""
    many = len(names)
    return {name: (many + total - 1 - places[name]) // many for name in names}


def joint_path(first, second):
    """The path of first's walkers, then second's."""
    names, others = names_of_both(first, second)
    return Path(names + others)


def names_of_both(first, second):
    names = walkers_of(first)
    others = walkers_of(second)
    for name in names:
        if name in others:
            raise CommonWalker(name)
    return names, others


def joined(first, stand, second, other_stand, sums):
    """The stand of the joint path by which first's walkers have these sums over all of second's; None without one."""
    names, others = names_to_join(first, stand, second, other_stand)
    need_sums(names, sums)
    if first_joint_clash(names, stand, others, sums) is not None:
        return None
    nets = nets_among(names, stand)
    among_others = nets_among(others, other_stand)
    for one, other in among_others:
        nets[one, other] = among_others[one, other]
    for name in names:
        add_nets(nets, name, nets_by_total(others, other_stand, sums[name]))
    return placed_by(names + others, nets)


def joint_clash(first, stand, second, other_stand, sums):
    """The first two of first's walkers who cannot have these sums, None if there are none."""
    names, others = names_to_join(first, stand, second, other_stand)
    need_sums(names, sums)
    return first_joint_clash(names, stand, others, sums)


def names_to_join(first, stand, second, other_stand):
    names, others = names_of_both(first, second)
    need_stand(names, stand)
    need_stand(others, other_stand)
    return names, others


def need_sums(names, sums):
    if not is_dict_of(names, sums, is_integer):
        raise BadSums(sums)


def first_joint_clash(names, places, others, sums):
    for one, other in pairs_ahead(names):
        laps = (places[one] - places[other]) // len(names)
        if not len(others) * laps <= sums[one] - sums[other] <= len(others) * (laps + 1):
            return one, other
    return None


def count_joined(first, stand, second, other_stand, total):
    """For how many sums, total together, there is such a stand."""
    names, others = names_to_join(first, stand, second, other_stand)
    need_whole_total(total)
    rest = (total + len(others) * stand[names[0]]) % len(names)
    return count_risings(len(names), len(others), rest)


def count_risings(many, most, rest):
    """How many lists of so many numbers that do not fall, from 0 at first to most, have a sum with this rest."""
    # How many numbers of a list are above 0 so far, and the rest of their sum.
    ways = {(0, 0): 1}
    for number in range(1, most + 1):
        behind = {}
        for (used, begun), known in ways.items():
            for more in range(many - used):
                place = (used + more, (begun + more * number) % many)
                behind[place] = behind.get(place, 0) + known
        ways = behind
    return sum([known for (_, begun), known in ways.items() if begun == rest])

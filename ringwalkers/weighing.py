"""Weights of terms, in balance, that are worth as much as can be.

A term (one, other, low, high, worth) has a weight from low to high, high None for no end: it counts for one and against
other, and each 1 of it is worth so much. Weights are in balance if for each walker as much counts for as against them.
"""

from ringwalkers.rows import least_row


def balances(names, terms, weights):
    """What counts for each walker less what counts against them."""
    found = {name: 0 for name in names}
    for (one, other, _, _, _), weight in zip(terms, weights):
        found[one] += weight
        found[other] -= weight
    return found


def is_balanced(names, terms, weights):
    found = balances(names, terms, weights)
    return all([found[name] == 0 for name in names])


def are_let(terms, weights):
    """Whether each weight lies between the ends of its term."""
    for (_, _, low, high, _), weight in zip(terms, weights):
        if weight < low or (high is not None and weight > high):
            return False
    return True


def worth_of(terms, weights):
    return sum([weight * worth for (_, _, _, _, worth), weight in zip(terms, weights)])


def best_weights(names, terms):
    """Weights in balance that are worth the most, if no term without an end is worth more than 0.

    At first each weight is the best one by itself; then the balance is made, always at the least loss.
    """
    weights = [best_alone(low, high, worth) for _, _, low, high, worth in terms]
    while not is_balanced(names, terms, weights):
        make_up(names, terms, weights)
    return weights


def best_alone(low, high, worth):
    if worth > 0:
        return high
    return low if worth < 0 else 0


def make_up(names, terms, weights):
    """Weights change, so that what the first one is short of comes from the first one who has too much and can give."""
    balance = balances(names, terms, weights)
    short = [name for name in names if balance[name] < 0][0]
    found = changes_left(terms, weights)
    losses = losses_of(found)
    rows = [least_row(names, losses, short, name) for name in names if balance[name] > 0]
    row = [each for each in rows if each is not None][0]
    changes = [found[pair] for pair in zip(row, row[1:])]
    rooms = [room_left(terms, weights, index, sign) for _, index, sign in changes]
    amount = min([each for each in rooms if each is not None] + [-balance[short], balance[row[-1]]])
    for _, index, sign in changes:
        weights[index] += sign * amount


def changes_left(terms, weights):
    """By which change of a weight something can count for one less against other, at the least loss.

    A dict from pairs (one, other) to triples: the loss, the index of the term, 1 if its weight grows, else -1.
    """
    found = {}
    for index, (one, other, low, high, worth) in enumerate(terms):
        if high is None or weights[index] < high:
            found[one, other] = min(found.get((one, other), (-worth, index, 1)), (-worth, index, 1))
        if weights[index] > low:
            found[other, one] = min(found.get((other, one), (worth, index, -1)), (worth, index, -1))
    return found


def losses_of(changes):
    return {pair: loss for pair, (loss, _, _) in changes.items()}


def room_left(terms, weights, index, sign):
    """By how much a weight can grow, or fall; None without an end."""
    _, _, low, high, _ = terms[index]
    if sign < 0:
        return weights[index] - low
    return None if high is None else high - weights[index]

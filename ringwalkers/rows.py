"""Rows of walkers, each next pair of which adds a step: least sums, and rings below 0.

Steps are a dict from some pairs of unlike walkers to integers.
"""


def least_sums(names, steps):
    """The least sum over all rows from one to other, for all pairs to which a row leads, without a ring below 0."""
    sums = {pair: steps[pair] for pair in steps}
    for mid in names:
        for one in names:
            if (one, mid) in sums:
                for other in names:
                    if other != one and (mid, other) in sums:
                        through = sums[one, mid] + sums[mid, other]
                        sums[one, other] = min(sums.get((one, other), through), through)
    return sums


def least_row(names, steps, one, other):
    """Unlike walkers from one to other with the least sum, without a ring below 0; None if no row leads there."""
    sums = {one: 0}
    rows = {one: [one]}
    for _ in names:
        for here, there in steps:
            if here in sums:
                through = sums[here] + steps[here, there]
                if there not in sums or through < sums[there]:
                    sums[there] = through
                    rows[there] = rows[here] + [there]
    return rows.get(other)


def sum_of_row(steps, row):
    """What a row adds up to, None if some next pair of it has no step."""
    pairs = list(zip(row, row[1:]))
    if not all([pair in steps for pair in pairs]):
        return None
    return sum([steps[pair] for pair in pairs])


def least_distances(names, steps):
    """Distances of which none is above another one by more than the pair's step, None if there are none."""
    distances = {name: 0 for name in names}
    for _ in names:
        if not shorten(steps, distances, {}):
            return distances
    return None


def shorten(steps, distances, after):
    """Goes once through all steps: distances change, and who comes after whom; the last one changed, None without."""
    changed = None
    for one, other in steps:
        if distances[other] + steps[one, other] < distances[one]:
            distances[one] = distances[other] + steps[one, other]
            after[one] = other
            changed = one
    return changed


def ring_below(names, steps):
    """Unlike walkers whose steps, from each one to the next and from the last to the first, are together below 0.

    None if there is no such ring.
    """
    distances = {name: 0 for name in names}
    after = {}
    changed = None
    for _ in names:
        changed = shorten(steps, distances, after)
        if changed is None:
            return None
    # Whoever changed as late as this comes after a ring: going on so often leads into it.
    for _ in names:
        changed = after[changed]
    ring = [changed]
    while after[ring[-1]] != changed:
        ring.append(after[ring[-1]])
    return ring

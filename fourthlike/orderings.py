"""What is beneath what: rings, bounds and steps of things, told as dicts from names."""


def told_above(names, pairs):
    """For each name the ascending names of the others that it is told beneath."""
    found = {name: [] for name in sorted(names)}
    for lower, higher in sorted(set([(one, other) for one, other in pairs])):
        if lower != higher:
            found[lower].append(higher)
    return found


def ring_from(start, above):
    """The fewest names from this one on, each told beneath the next one, the last beneath the first, or None.

    The paths of a turn ascend, so the first one that comes back is the least of the shortest.
    """
    paths = [(start,)]
    seen = {start: True}
    while len(paths) > 0:
        longer = []
        for path in paths:
            for name in above[path[-1]]:
                if name == start:
                    return path
                if name not in seen:
                    seen[name] = True
                    longer.append(path + (name,))
        paths = longer
    return None


def ring_of(above):
    """The ring of the fewest names, of equally many the first one, or None."""
    rings = [ring_from(name, above) for name in above]
    found = min([(len(ring), ring) for ring in rings if ring is not None], default=None)
    return None if found is None else found[1]


def all_above(above):
    """For each name a dict of all names that it is beneath, itself with them."""
    found = {}
    for start in above:
        there = {start: True}
        waiting = [start]
        while len(waiting) > 0:
            name = waiting.pop()
            for higher in above[name]:
                if higher not in there:
                    there[higher] = True
                    waiting.append(higher)
        found[start] = there
    return found


def turned(above):
    """For each name a dict of all names that are beneath it, if above tells all that it is beneath."""
    return {name: {other: True for other in above if name in above[other]} for name in above}


def bound(one, other, beneath):
    """The meet of two names, None if there is none; their join, if above is told as beneath."""
    shared = [name for name in beneath[one] if name in beneath[other]]
    for name in shared:
        if all([lower in beneath[name] for lower in shared]):
            return name
    return None


def bounds(beneath):
    """A dict from each pair of names to its meet; to its join, if above is told as beneath."""
    return {(one, other): bound(one, other, beneath) for one in beneath for other in beneath}


def first_unbound(names, meets, joins):
    """The first two names without a meet or a join, with the side, None if all have both."""
    for one in names:
        for other in names:
            if one < other and meets[one, other] is None:
                return one, other, "meet"
            if one < other and joins[one, other] is None:
                return one, other, "join"
    return None


def is_step(lower, higher, beneath):
    """Whether just the two, which are not one, are above the lower or it, and beneath the higher or it."""
    return len([name for name in beneath[higher] if lower in beneath[name]]) == 2


def steps_of(names, beneath):
    """The tuple of the steps, ascending if the names ascend."""
    return tuple([(lower, higher) for lower in names for higher in names if is_step(lower, higher, beneath)])

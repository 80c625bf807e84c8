"""Culprits: the least sets of parties whose breaches can break a promise."""

from firstbreach.judging import judge
from firstbreach.parts import in_common, is_part, parts_of
from firstbreach.rests import least_sets


def culprits(core, promise):
    """Returns the list of the pairs (parties, run) of all least culprit sets, in the order of least_sets."""
    found = []
    for parties in crossing(least_sets(core, promise)):
        outside = [party for party in core.parties if party not in parties]
        found.append((parties, judge(core, promise, outside).run))
    return found


def crossing(sets):
    """Returns the list of all least sets that have an element in common with each of these sets."""
    found = []
    for part in parts_of(sorted({name for names in sets for name in names})):
        meets_all = all([in_common(part, names) for names in sets])
        if meets_all and not any([is_part(least, part) for least in found]):
            found.append(part)
    return found

"""Rests: the least sets of parties on which a promise rests."""

from firstbreach.errors import Needless, NotEnough
from firstbreach.judging import judge
from firstbreach.parts import in_common, is_part, parts_of


def least_sets(core, promise):
    """Returns the list of all least sets for the promise, smaller ones first, those of one size ascending."""
    if not judge(core, promise, core.parties):
        return []
    found = []
    # The sets of the parties whose breaches have broken the promise in some run: no set that leaves out all of them
    # is enough.
    breakers = []
    for parties in parts_of(core.parties):
        known = any([is_part(least, parties) for least in found])
        if known or not all([in_common(parties, breaking) for breaking in breakers]):
            continue
        verdict = judge(core, promise, parties)
        if verdict:
            found.append(parties)
        else:
            breakers.append(breakers_in(core, verdict.run))
    return found


def breakers_in(core, rows):
    """Returns the ascending tuple of the parties that make a breach in the run."""
    found = {}
    standing = core.start()
    for row in rows:
        for party in core.breaches(standing, row):
            found[party] = True
        standing = core.after(standing, row)
    return tuple(sorted(list(found)))


def lacking(core, promise, parties):
    """Returns the ascending list of the pairs (party, run) that tell how the promise breaks without each party."""
    verdict = judge(core, promise, parties)
    if not verdict:
        raise NotEnough(verdict.run)
    found = []
    for party in sorted(set(parties)):
        without = judge(core, promise, [other for other in parties if other != party])
        if without:
            raise Needless(party)
        found.append((party, without.run))
    return found


def isolated(core, promise, task):
    """Returns whether the promise holds whatever the gaps and the needs of this task do."""
    own = (f"gaps{task}", f"needs{task}")
    return judge(core, promise, [party for party in core.parties if party not in own]).holds

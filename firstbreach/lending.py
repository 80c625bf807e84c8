"""Lending: whether promises of guests hold on what their hosts lend them, and which core is at fault if not."""

from firstbreach.joints import JointMarker, JointWalk, broken_in, first_breaches
from firstbreach.judging import found_verdict, judge
from firstbreach.promises import Fed, first_mark


class Outcome:
    """Whether a promise holds by its papers, in the joint runs only, or not at all, and then the core at fault."""

    def __init__(self, word, triples, verdict, fault):
        self.word = word
        self.papers = list(triples)
        self.together = verdict
        self.fault = fault


def together(level, path, promise, kept=None, *, start=None):
    """Returns the verdict of the promise of the core with this path in the joint runs."""
    mark = first_mark(level[path], promise)
    parties = level.parties if kept is None else kept
    walk = JointWalk(level, parties)
    return found_verdict(walk, JointMarker(level, path, promise), (level.begun(start), mark))


def papers(level, path, promise):
    """Returns the list of the triples (path, promise, verdict) of the promise and the contracts that it relies on."""
    place = tuple(path)
    core = level[place]
    found = [(place, promise, judge(core, promise, core.parties))]
    while place:
        contract = Fed(place[-1])
        place = place[:-1]
        host = level[place]
        found.append((place, contract, judge(host, contract, host.parties)))
    return found


def outcome(level, path, promise):
    """Returns the outcome of the promise of the core with this path."""
    triples = papers(level, path, promise)
    if all([verdict.holds for _, _, verdict in triples]):
        return Outcome("books", triples, None, None)
    verdict = together(level, path, promise)
    if verdict.holds:
        return Outcome("here", triples, verdict, None)
    return Outcome("broken", triples, verdict, fault_of(level, path, promise, verdict.run))


def fault_of(level, path, promise, rows):
    """Returns the path of the core at fault in this joint run, or None if the promise does not break in it."""
    first_mark(level[path], promise)
    breaches = first_breaches(level, rows, level.start())
    limit = broken_in(level, path, promise, rows, level.start())
    if limit is None:
        return None
    place = tuple(path)
    # The core below is only at fault if it got what it may rely on up to the row that is asked about.
    while place and breaches.get((place, "supply"), limit + 1) <= limit:
        limit = breaches[(place, "supply")]
        place = place[:-1]
    return place

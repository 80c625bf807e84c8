"""Judging: whether a promise holds for a set of parties, and a shortest run that breaks it if not."""

from firstbreach.promises import Marker, first_mark
from firstbreach.trails import steps_to
from firstbreach.walks import Walk


class Verdict:
    """Whether a promise holds, with the table of what runs lead to if so, otherwise with a run that breaks it."""

    def __init__(self, holds, table, run):
        self.holds = holds
        self.table = None if table is None else list(table)
        self.run = None if run is None else list(run)

    def __bool__(self):
        return bool(self.holds)


def judge(core, promise, kept, *, start=None):
    """Returns the verdict of the promise for the parties in the list kept."""
    first = (core.begun(start), first_mark(core, promise))
    return found_verdict(Walk(core, kept), Marker(core, promise), first)


def found_verdict(walk, marker, first):
    """Returns the verdict for the runs that begin in the first pair of a standing and a mark.

    The walk tells the moves from a standing, and the marker tells the marks.
    """
    table = [first]
    trail = [(-1, None)]
    # The marks that each standing has been seen with: a key of both would be too deep for joint standings.
    seen = {first[0]: (first[1],)}
    at = 0
    while at < len(table):
        standing, mark = table[at]
        for row, after in walk.moves(standing):
            later = marker.mark(mark, row, after)
            if later == -1:
                return Verdict(False, None, steps_to(trail, at) + [row])
            marks = seen.get(after, ())
            if later not in marks:
                seen[after] = marks + (later,)
                table.append((after, later))
                trail.append((at, row))
        at += 1
    return Verdict(True, table, None)


def breaks_at(core, promise, rows, *, start=None):
    """Returns the index of the row that breaks the promise in this run, or None."""
    mark = first_mark(core, promise)
    marker = Marker(core, promise)
    standings = core.play(rows, start=start)
    for index, (row, after) in enumerate(zip(rows, standings)):
        mark = marker.mark(mark, row, after)
        if mark == -1:
            return index
    return None

"""Leftovers: the ticks that a core leaves over, as a supply and as shares."""

from firstbreach.judging import found_verdict
from firstbreach.promises import Marker, Spare, left_over
from firstbreach.supplies import MAX_STATES, Supply
from firstbreach.walks import Walk, charted


def leftover(core, kept):
    """Returns the supply of the ticks that are left over while the parties in the list kept keep their books."""
    standings, _, steps = charted(core, kept, most=MAX_STATES)
    found = sorted({(at, left_over(row), goal) for at, moves in enumerate(steps) for row, goal in moves})
    return Supply(len(standings), found)


def stairs(core, longest):
    """Returns the list of the triples (p, q, run) of the greatest share that is left over in each period."""
    walk = Walk(core, core.parties)
    found = []
    for period in range(1, longest + 1):
        given = 0
        run = None
        while given < period and run is None:
            # The start of a share is its state 0.
            marker = Marker(core, Spare(given + 1, period))
            run = found_verdict(walk, marker, (core.start(), 0)).run
            if run is None:
                given += 1
        found.append((period, given, run))
    return found

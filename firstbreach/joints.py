"""Joint runs: following all cores of a level together, and what happens in one run of theirs."""

from firstbreach.judging import breaks_at
from firstbreach.levels import kept_inside, kept_on_top, lent_bit
from firstbreach.promises import Marker
from firstbreach.walks import Walk


class JointWalk:
    """The joint rows that may follow a joint standing in runs in which certain parties keep their books."""

    def __init__(self, level, kept):
        level.check_parties(kept)
        self._walk = Walk(level.core, kept_on_top(kept))
        self._guests = []
        for number, guest in level.guests.items():
            self._guests.append((number, JointWalk(guest, kept_inside(kept, number))))
        self._known = {}
        self._lent = {}

    def moves(self, joint):
        """Returns the list of the pairs (joint row, joint standing after it).

        Of the rows of each core that Walk takes for one, it has one.
        """
        standing, inner = joint
        found = []
        for row, after in self._walk.moves(standing):
            lent = self.lent_moves(inner, row)
            found.extend([((row, rows), (after, afters)) for rows, afters in lent])
        return found

    def lent_moves(self, inner, row):
        """Returns the list of the pairs of the guests' joint rows beside this row of their host and what they lead to.

        It is remembered, for it depends only on the job that runs.
        """
        key = (inner, row[2])
        if key not in self._lent:
            lent = [((), ())]
            for (number, walk), part in zip(self._guests, inner):
                moves = walk.moves_with(part, lent_bit(row, number))
                lent = [(rows + (one,), afters + (goal,)) for rows, afters in lent for one, goal in moves]
            self._lent[key] = lent
        return self._lent[key]

    def moves_with(self, joint, bit):
        """Returns the list of the moves with this tick of the top core, remembered."""
        key = (joint, bit)
        if key not in self._known:
            self._known[key] = [move for move in self.moves(joint) if move[0][0][0] == bit]
        return self._known[key]


class JointMarker:
    """The marks of a promise of the core with this path in joint runs."""

    def __init__(self, level, path, promise):
        self._places = level.places_to(path)
        self._marker = Marker(level[path], promise)

    def mark(self, mark, row, after):
        """Returns the mark behind this mark and this joint row, which leads to the joint standing after."""
        for place in self._places:
            row = row[1][place]
            after = after[1][place]
        return self._marker.mark(mark, row[0], after[0])


def first_breaches(level, rows, start):
    """Returns a dict from the pairs (path, party) to the index of the first of these joint rows that is their breach.

    The run begins in the joint standing start. The keys are in ascending order of (index, pair).
    """
    found = {}
    joints = [start] + level.play(rows, start=start)
    for index, row in enumerate(rows):
        for pair in level.breaches(joints[index], row):
            found.setdefault(pair, index)
    return found


def broken_in(level, path, promise, rows, start):
    """Returns the index of the joint row that breaks this promise of the core with this path, or None."""
    own_rows = [level.part(row, path) for row in rows]
    return breaks_at(level[path], promise, own_rows, start=level.part(start, path))

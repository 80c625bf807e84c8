"""Walks: following all runs of a core in which certain parties keep their books."""

from firstbreach.errors import TooLarge


class Walk:
    """The rows that may follow a standing in such runs, remembered from one standing to the next."""

    def __init__(self, core, kept):
        core.check_parties(kept)
        self._core = core
        self._kept = tuple(kept)
        self._turns = {}
        self._goals = {}

    def moves(self, standing):
        """Returns the list of the pairs (row, standing after it).

        Of rows that have the same tick, let the same job run and lead to the same standing, it has one.
        """
        states, statuses = standing
        goals = self.goals(states)
        strict = "supply" in self._kept and len(states) > 0
        turns = self.turns(statuses)
        return [(row, (goals[row[0]], later)) for row, later in turns if goals[row[0]] or not strict]

    def goals(self, states):
        """Returns the pair of what a tick 0 and a tick 1 make of the states."""
        if states not in self._goals:
            supply = self._core.supply
            self._goals[states] = (supply.after(states, 0), supply.after(states, 1))
        return self._goals[states]

    def turns(self, statuses):
        """Returns the list of the pairs (row, statuses after it)."""
        if statuses not in self._turns:
            self._turns[statuses] = self.found_turns(statuses)
        return self._turns[statuses]

    def found_turns(self, statuses):
        """Finds what turns returns."""
        core = self._core
        standing = ((), statuses)
        least_comes = {}
        for comes in core.comings(standing, self._kept):
            least_comes.setdefault(core.arrived(standing, comes), comes)
        found = {}
        for bit in (0, 1):
            for present, comes in least_comes.items():
                for ran, more in core.runnings(present, bit, self._kept):
                    later = core.passed(present, ran, more)
                    found.setdefault((bit, ran, later), (bit, comes, ran, more))
        return [(row, key[2]) for key, row in found.items()]


def charted(core, kept, *, most=None):
    """Returns a triple (standings, trail, steps) of all runs in which the parties in the list kept keep their books.

    The standings are all to which such runs lead, those to which fewer rows lead first; the trail has a place for each,
    and steps has for each the list of the pairs (row, place of the standing after it), as Walk gives the rows. Raises
    TooLarge if there are more standings than most.
    """
    walk = Walk(core, kept)
    standings = [core.start()]
    trail = [(-1, None)]
    places = {standings[0]: 0}
    steps = []
    while len(steps) < len(standings):
        at = len(steps)
        moves = []
        for row, after in walk.moves(standings[at]):
            if after not in places:
                places[after] = len(standings)
                standings.append(after)
                trail.append((at, row))
            moves.append((row, places[after]))
        if most is not None and len(standings) > most:
            raise TooLarge(most)
        steps.append(moves)
    return (standings, trail, steps)

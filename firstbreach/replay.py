"""Replay: what happened in a run of joint rows, whoever broke a book."""

from firstbreach.errors import UnknownPath
from firstbreach.joints import broken_in, first_breaches
from firstbreach.levels import tupled


class Replay:
    """A run of joint rows on a level, with the first breach of each party."""

    def __init__(self, level, rows, *, start=None):
        self.level = level
        self.rows = [tupled(row) for row in rows]
        self._begun = level.begun(start)
        self.joints = level.play(self.rows, start=self._begun)
        self.breach_rows = first_breaches(level, self.rows, self._begun)

    @property
    def first(self):
        """The pair (index, pair) of the first breach of all, or None."""
        for pair in self.breach_rows:
            return (self.breach_rows[pair], pair)
        return None

    def broken(self, path, promise):
        """Returns the index of the row that breaks this promise of the core with this path, or None."""
        return broken_in(self.level, path, promise, self.rows, self._begun)

    def account(self, path, promise, sets):
        """Returns the list of the first breaches of each of the sets up to the row that breaks the promise, or None."""
        limit = self.broken(path, promise)
        if limit is None:
            return None
        return [self.first_of(tuple(path), parties, limit) for parties in sets]

    def first_of(self, path, parties, limit):
        """Returns the pair (index, party) of the first breach of one of these parties up to this index, or None."""
        breaches = [(self.breach_rows[(path, one)], one) for one in parties if (path, one) in self.breach_rows]
        return min([pair for pair in breaches if pair[0] <= limit], default=None)

    def rows_of(self, path):
        """Returns the list of the rows of the core with this path."""
        if path not in self.level:
            raise UnknownPath(path)
        return [self.level.part(row, path) for row in self.rows]

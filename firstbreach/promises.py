"""Promises: what may be promised of a core, and the marks that tell when a promise breaks."""

from firstbreach.choices import blocked_by
from firstbreach.errors import InvalidPromise
from firstbreach.supplies import MAX_PERIOD, Supply, share_of


class Promise:
    """The base class of all promises."""

    def fits(self, core):
        """Returns whether the promise fits the core."""
        return True

    def gauge(self, core):
        """Returns the share whose states are the marks, or None if the mark is told by the standing alone."""
        return None


class Due(Promise):
    """No job of a task is unfinished late ticks after its due."""

    def __init__(self, task, *, late=0):
        self.task = task
        self.late = late

    def fits(self, core):
        """Returns whether the task exists and its caps reach far enough."""
        if not (0 <= self.task < len(core.tasks) and self.late >= 0):
            return False
        task = core.tasks[self.task]
        return all([due + self.late <= task.cap(node) for node, (_, due) in enumerate(task.nodes)])

    def breaks_in(self, core, standing):
        """Returns whether the promise breaks in a row that leads to the standing."""
        task = core.tasks[self.task]
        status = standing[1][self.task]
        return task.unfinished(status) and status[1] >= task.nodes[status[0]][1] + self.late


class Spare(Promise):
    """Enough ticks are left over."""

    def __init__(self, given, period):
        self.given = given
        self.period = period

    def fits(self, core):
        """Returns whether there is such a share."""
        return 1 <= self.period <= MAX_PERIOD and 0 <= self.given <= self.period

    def gauge(self, core):
        """Returns the share of the left over ticks."""
        return share_of(self.given, self.period)

    def counts(self, row):
        """Returns 1 if the row leaves its tick over, otherwise 0."""
        return left_over(row)


class Fed(Promise):
    """The job of a server runs often enough."""

    def __init__(self, task):
        self.task = task

    def fits(self, core):
        """Returns whether the task exists and is a server."""
        return 0 <= self.task < len(core.tasks) and core.tasks[self.task].server

    def gauge(self, core):
        """Returns the share of the ticks in which the server runs."""
        task = core.tasks[self.task]
        return Supply.share(len(task.nodes[0][0]), task.edges[0][2])

    def counts(self, row):
        """Returns 1 if the server runs in the row, otherwise 0."""
        return 1 if row[2] == self.task else 0


class Free(Promise):
    """Jobs never wait in a ring."""

    def breaks_in(self, core, standing):
        """Returns whether the promise breaks in a row that leads to the standing."""
        return len(in_ring(core, standing)) > 0


def left_over(row):
    """Returns 1 if the row leaves its tick over, otherwise 0."""
    bit, _, ran, _ = row
    return 1 if bit == 1 and ran == -1 else 0


class Marker:
    """The marks of a promise of a core, remembered from one row to the next."""

    def __init__(self, core, promise):
        self._core = core
        self._promise = promise
        self._gauge = promise.gauge(core)
        self._known = {}

    def mark(self, mark, row, after):
        """Returns the mark behind this mark and this row, which leads to the standing after."""
        if self._gauge is None:
            key = after[1]
        else:
            key = (mark, self._promise.counts(row))
        if key not in self._known:
            self._known[key] = self.found_mark(key, after)
        return self._known[key]

    def found_mark(self, key, after):
        """Finds what mark returns; the key tells all that the mark depends on."""
        if self._gauge is None:
            return -1 if self._promise.breaks_in(self._core, after) else 0
        mark, counted = key
        goals = self._gauge.after((mark,), counted)
        return goals[0] if goals else -1


def first_mark(core, promise):
    """Returns the mark at the start."""
    if not promise.fits(core):
        raise InvalidPromise("the promise does not fit the core")
    # The start of a share is its state 0.
    return 0


def next_mark(core, promise, mark, standing, row, after):
    """Returns the mark after the row, which leads from the standing with the mark to the standing after."""
    return Marker(core, promise).mark(mark, row, after)


def in_ring(core, standing):
    """Returns the ascending tuple of the jobs that wait in a ring, or () if there is none."""
    _, statuses = standing
    numbers = list(range(len(core.tasks)))
    blockers = [blocked_by(core.tasks, statuses, number) for number in numbers]
    return tuple([number for number in numbers if leads_back(blockers, number)])


def leads_back(blockers, number):
    """Returns whether following the blockers from this job comes to it again."""
    at = number
    for _ in blockers:
        at = blockers[at]
        if at < 0 or at == number:
            return at == number
    return False

"""Desks: changing a house while it runs, as long as it stays secure."""

from firstbreach.errors import Broken, NotNow, Refused
from firstbreach.joints import JointWalk
from firstbreach.judging import found_verdict
from firstbreach.levels import level_at
from firstbreach.promises import Due
from firstbreach.tasks import NONE


class Desk:
    """What may be asked of a house."""

    def __init__(self, house):
        self.house = house

    def secure(self, name):
        """Returns the verdict whether the level with this name is secure."""
        return secure_verdict(self.house.level_of(name), self.house.joint_of(name))

    def ask(self, name, task, *, path=()):
        """Gives the core with this path this task as its last one; returns the number of the task."""
        level = self.house.level_of(name)
        joint = self.house.joint_of(name)
        changed = level.joined(path, task)
        states, statuses = level.part(joint, path)
        self.settle_on(name, changed, level.with_part(joint, path, (states, statuses + (NONE,))))
        return len(statuses)

    def leave(self, name, number, *, path=()):
        """Lets the task with this number of the core with this path leave."""
        level = self.house.level_of(name)
        joint = self.house.joint_of(name)
        there = level_at(level, path)
        states, statuses = level.part(joint, path)
        if not may_leave(there, statuses, number):
            raise NotNow(number)
        later = (states, statuses[:number] + statuses[number + 1:])
        self.settle_on(name, level.left(path, number), level.with_part(joint, path, later))

    def exchange(self, name, *, path=(), choice=None, door=None, guard=None):
        """Gives the core with this path what is not None."""
        level = self.house.level_of(name)
        core = level[path].changed(choice=choice, door=door, guard=guard)
        self.settle_on(name, level.exchanged(path, core), self.house.joint_of(name))

    def settle_on(self, name, level, joint):
        """Puts this level in this joint standing in place of the one with this name, if it is secure there."""
        verdict = secure_verdict(level, joint)
        if not verdict:
            path, task = late_jobs(level, level.play(verdict.run, start=joint)[-1])[0]
            raise Refused(verdict.run, path, task) from Broken(path, task)
        self.house.put(name, level, joint)

    def tick(self, rows, *, picks=None):
        """Plays a tick of the house; returns the list of the pairs (name, ran) of the acts made."""
        return self.house.tick(rows, picks=picks)


class Trial:
    """A block in which a desk may be used, and after which its house is as it was."""

    def __init__(self, desk):
        self._desk = desk
        self._house = desk.house
        self._moment = None

    def __enter__(self):
        self._moment = self._house.moment
        return self._desk

    def __exit__(self, kind, value, trace):
        self._house.moment = self._moment


class DuesMarker:
    """The marks of the promise that no job of any core of a level is late."""

    def __init__(self, level):
        self._level = level
        self._known = {}

    def mark(self, mark, row, after):
        """Returns the mark behind this mark and this joint row, which leads to the joint standing after."""
        if after not in self._known:
            self._known[after] = -1 if late_jobs(self._level, after) else 0
        return self._known[after]


def secure_verdict(level, joint):
    """Returns the verdict whether the level is secure in the joint standing."""
    return found_verdict(JointWalk(level, level.parties), DuesMarker(level), (joint, 0))


def late_jobs(level, joint):
    """Returns the ascending list of the pairs (path, task) whose job breaks Due in a row that leads to the standing."""
    standing, inner = joint
    found = [((), task) for task in range(len(level.core.tasks)) if Due(task).breaks_in(level.core, standing)]
    for (number, guest), part in zip(level.guests.items(), inner):
        found.extend([((number,) + path, task) for path, task in late_jobs(guest, part)])
    return found


def may_leave(level, statuses, number):
    """Returns whether the top core has a task with this number that has no unfinished job and no guest."""
    if not 0 <= number < len(level.core.tasks):
        return False
    return number not in level.guests and not level.core.tasks[number].unfinished(statuses[number])


def rehearse(desk, deeds):
    """Returns the list of what these deeds return, and leaves the house as it was."""
    told = []
    with Trial(desk) as trial:
        for deed in deeds:
            told.append(done(trial, deed))
    return told


def done(desk, deed):
    """Does the deed and returns what it returns."""
    kind, *rest = deed
    if kind == "secure":
        return desk.secure(rest[0])
    if kind == "ask":
        name, task, path = rest
        return desk.ask(name, task, path=path)
    if kind == "leave":
        name, number, path = rest
        return desk.leave(name, number, path=path)
    if kind == "exchange":
        name, path, choice, door, guard = rest
        return desk.exchange(name, path=path, choice=choice, door=door, guard=guard)
    rows, picks = rest
    return desk.tick(rows, picks=picks)

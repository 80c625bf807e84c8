"""Hold-ups: how often a job can be held up while less urgent jobs run."""

from firstbreach.trails import steps_to
from firstbreach.walks import Walk


def held_up(core, task):
    """Returns a pair of the greatest hold-up of a job of the task and a run that ends with its last tick."""
    trail, ends = hold_ups(core, task)
    if not ends:
        return (0, [])
    greatest = max(list(ends))
    at, row = ends[greatest]
    return (greatest[0], steps_to(trail, at) + [row])


def hinderers(core, task):
    """Returns the ascending tuple of the tasks whose jobs can run while a job of the task is held up."""
    _, ends = hold_ups(core, task)
    return tuple(sorted({ran for _, ran in ends}))


def hold_ups(core, task):
    """Returns a pair (trail, ends) of a search through all runs in which all parties keep their books.

    ends is a dict from the pairs (hold-up so far, job that runs) of ticks in which a job of the task is held up to a
    place in the trail and the row that leads on from there.
    """
    walk = Walk(core, core.parties)
    found = [(core.start(), 0)]
    seen = {found[0]: True}
    trail = [(-1, None)]
    ends = {}
    at = 0
    while at < len(found):
        standing, count = found[at]
        for row, after in walk.moves(standing):
            later = count
            if is_held_up(core, task, core.arrived(standing, row[1]), row[2]):
                later += 1
                ends.setdefault((later, row[2]), (at, row))
            pair = (after, later if may_be_held_up(core.tasks[task], after[1][task]) else 0)
            if pair not in seen:
                seen[pair] = True
                found.append(pair)
                trail.append((at, row))
        at += 1
    return (trail, ends)


def is_held_up(core, task, statuses, ran):
    """Returns whether the job of the task is held up if this job runs, with these statuses after the arrivals."""
    if ran < 0 or not may_be_held_up(core.tasks[task], statuses[task]):
        return False
    jobs = core.choice.urgent(core.tasks, statuses, core.guard)
    return jobs.index(ran) > jobs.index(task)


def may_be_held_up(task, status):
    """Returns whether the last job is unfinished and not yet due."""
    node, age, _, _ = status
    return task.unfinished(status) and age < task.nodes[node][1]


def stretch(core, task):
    """Returns the stretch of the task."""
    levels = core.choice.levels(core.tasks)
    behind = [other for number, other in enumerate(core.tasks) if levels[number] > levels[task]]
    greatest = 0
    for other in behind:
        for node, (plan, _) in enumerate(other.nodes):
            count = 0
            for done in range(1, len(plan)):
                ceilings = [core.choice.ceiling(core.tasks, lock) for lock in other.held((node, 0, done, 0))]
                count = count + 1 if any([ceiling <= levels[task] for ceiling in ceilings]) else 0
                greatest = max(greatest, count)
    return greatest

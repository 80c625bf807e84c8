"""Waits: which jobs wait for which others in a standing."""

from firstbreach.choices import blocked_by


def holders(core, standing):
    """Returns a dict from each lock that a job holds to the number of the job, the locks in ascending order."""
    found = {}
    for number, (task, status) in enumerate(zip(core.tasks, standing[1])):
        for lock in task.held(status):
            found.setdefault(lock, number)
    return {lock: found[lock] for lock in sorted(list(found))}


def waits(core, standing):
    """Returns the ascending list of the triples (job, blocker, kind) of all jobs that are blocked or held back."""
    statuses = standing[1]
    found = []
    for number in range(len(core.tasks)):
        blocker = core.choice.blocker(core.tasks, statuses, number)
        if blocker >= 0:
            kind = 1 if blocked_by(core.tasks, statuses, number) >= 0 else 0
            found.append((number, blocker, kind))
    return found


def runs_for(core, standing):
    """Returns the tuple that has for each task the most urgent job that its job runs for, or -1."""
    statuses = standing[1]
    served = {}
    for number in core.choice.urgent(core.tasks, statuses, core.guard):
        for runner in runners_for(core, statuses, number):
            served.setdefault(runner, number)
    return tuple([served.get(number, -1) for number in range(len(core.tasks))])


def runners_for(core, statuses, number):
    """Returns the list of the jobs that run for the job of the task with this number."""
    if "lend" not in core.choice.rules:
        return [number]
    met = []
    while number >= 0 and number not in met:
        met.append(number)
        number = core.choice.blocker(core.tasks, statuses, number)
    return met

"""Responses: how long jobs take, and how long a core can be busy, while all parties keep their books."""

from firstbreach.trails import loop_in, steps_to
from firstbreach.walks import charted


def response(core, task, node):
    """Returns a pair of the greatest response of a job of this node and a run that ends with it.

    If such a job can be unfinished at its cap: None and a shortest run that leads there.
    """
    return response_in(charted(core, core.parties), core.tasks[task], task, node)


def response_in(chart, task, number, node):
    """Returns what response does, from the chart of the runs and the task with this number."""
    standings, trail, steps = chart
    for at, (_, statuses) in enumerate(standings):
        last, age, _, _ = statuses[number]
        if last == node and age == task.cap(node) and task.unfinished(statuses[number]):
            return (None, steps_to(trail, at))
    greatest = 0
    run = []
    for at, moves in enumerate(steps):
        for row, goal in moves:
            status = standings[goal][1][number]
            if row[2] == number and status[0] == node and status[1] > greatest and not task.unfinished(status):
                greatest = status[1]
                run = steps_to(trail, at) + [row]
    return (greatest, run)


def lateness(core, task):
    """Returns by how many ticks a response of a job of the task is at most above the due, or None without a bound."""
    chart = charted(core, core.parties)
    greatest = 0
    for node, (_, due) in enumerate(core.tasks[task].nodes):
        ticks, _ = response_in(chart, core.tasks[task], task, node)
        if ticks is None:
            return None
        greatest = max(greatest, ticks - due)
    return greatest


def busy(core):
    """Returns a pair of the greatest number of rows on end that leave some job unfinished, and None.

    If there is no greatest number: None and a pair of a run and a loop behind it of such rows.
    """
    standings, trail, steps = charted(core, core.parties)
    working = [has_job(core, standing) for standing in standings]
    moves = {at: [(row, goal) for row, goal in steps[at] if working[goal]] for at, works in enumerate(working) if works}
    lengths = lengths_in(moves)
    if len(lengths) == len(moves):
        return (max(list(lengths.values()), default=0), None)
    endless = {}
    for at in moves:
        if at not in lengths:
            row, goal = [move for move in moves[at] if move[1] not in lengths][0]
            endless[at] = (at, row, goal)
    loop = loop_in(endless)
    return (None, (steps_to(trail, loop[0][0]), [row for _, row, _ in loop]))


def has_job(core, standing):
    """Returns whether some job is unfinished in the standing."""
    return any([task.unfinished(status) for task, status in zip(core.tasks, standing[1])])


def lengths_in(moves):
    """Returns a dict from the places from which no way is endless to the greatest number of places on such a way."""
    before = {at: [] for at in moves}
    left = {}
    for at in moves:
        left[at] = len(moves[at])
        for _, goal in moves[at]:
            before[goal].append(at)
    ended = [at for at in moves if left[at] == 0]
    lengths = {}
    while ended:
        goal = ended.pop()
        lengths[goal] = 1 + max([lengths[later] for _, later in moves[goal]], default=0)
        for at in before[goal]:
            left[at] -= 1
            if left[at] == 0:
                ended.append(at)
    return lengths

"""Demand: whether the jobs of a plain core can ask for more in some ticks on end than the supply gives."""

from firstbreach.errors import NotPlain, TooLarge
from firstbreach.tasks import MAX_PLAN, Task
from firstbreach.trails import steps_to
from firstbreach.windows import steps_by_state, word_to

# The place of a task whose last job has become due for good.
ENDED = (-1, 0)


class Demand:
    """Whether no window is overfull: either numbers that show it, or an overfull window of the fewest ticks."""

    def __init__(self, numbers, window):
        self.numbers = None if numbers is None else {end: numbers[end] for end in numbers}
        self.window = window

    def __bool__(self):
        return self.window is None


class Steps:
    """The steps from the places of a core, remembered."""

    def __init__(self, core):
        self._tasks = core.tasks
        self._ticks = steps_by_state(core.supply)
        self._asks = {}

    def onward(self, end):
        """Returns the list of the triples (tick, what its step adds to the difference, end behind it)."""
        places, state = end
        if places not in self._asks:
            self._asks[places] = asks_after(self._tasks, places)
        asks = self._asks[places]
        return [(tick, asked - tick, (later, goal)) for tick, goal in self._ticks[state] for asked, later in asks]


def demand(core):
    """Returns the demand of a plain core."""
    check_plain(core)
    steps = Steps(core)
    ends = [(places, state) for places in first_places(core.tasks) for state in core.supply.reached()]
    numbers = {end: 0 for end in ends}
    trail = [(-1, None) for _ in ends]
    fresh = [(end, 0, at) for at, end in enumerate(ends)]
    # All windows of one length are gone through before any longer one. A window is left aside if one that is not
    # longer ends in the same way with at least its difference.
    while fresh:
        later = {}
        for end, so_far, at in fresh:
            for tick, more, goal in steps.onward(end):
                difference = so_far + more
                if difference > 0:
                    return Demand(None, told_window(core, steps_to(trail, at) + [(end, tick)]))
                if goal not in numbers or difference > numbers[goal]:
                    numbers[goal] = difference
                    later[goal] = len(trail)
                    trail.append((at, (end, tick)))
        fresh = [(end, numbers[end], at) for end, at in later.items()]
    return Demand(numbers, None)


def check_plain(core):
    """Raises NotPlain if the core is not plain."""
    entries = [entry for task in core.tasks for plan, _ in task.nodes for entry in plan]
    if core.choice.order != "dues" or any([task.steady for task in core.tasks]) or any([e != "" for e in entries]):
        raise NotPlain("the core is not plain")


def first_places(tasks):
    """Returns the list of the tuples of the places in which the tasks can be when a window begins."""
    found = [()]
    for task in tasks:
        found = [places + ((node, due),) for places in found for node, (_, due) in enumerate(task.nodes)]
    return found


def asks_after(tasks, places):
    """Returns the list of the pairs (plan lengths that a tick from these places asks for, places behind it)."""
    found = [(0, ())]
    for task, place in zip(tasks, places):
        steps = place_steps(task, place)
        found = [(asked + more, later + (goal,)) for asked, later in found for more, goal in steps]
    return found


def place_steps(task, place):
    """Returns the list of the pairs (plan length that a tick from this place asks for, place behind it)."""
    node, count = place
    if place == ENDED:
        return [(0, ENDED)]
    if count > 1:
        return [(0, (node, count - 1))]
    plan, due = task.nodes[node]
    goals = [(v, gap + task.nodes[v][1] - due) for u, v, gap in task.edges if u == node]
    if not goals:
        goals = [ENDED]
    return [(len(plan), goal) for goal in goals]


def told_window(core, path):
    """Returns the triple (lead, word, arrivals) of a window that is told by its pairs (end before a tick, tick)."""
    (_, state), _ = path[0]
    arrivals = []
    for moment, ((places, _), _) in enumerate(path):
        for number, (node, count) in enumerate(places):
            if count == 1:
                arrivals.append((moment + 1 - core.tasks[number].nodes[node][1], number, node))
    return (word_to(core.supply, state), tuple([tick for _, tick in path]), sorted(arrivals))


def room(core, due, gap):
    """Returns the greatest length of a plan with which one more plain task leaves no window overfull, or 0."""
    check_plain(core)
    fuller = core.changed(tasks=core.tasks + (Task.plain(1, due, gap),))
    length = 0
    while fuller is not None and demand(fuller):
        length += 1
        fuller = with_plain(core, length + 1, due, gap)
    return length


def with_plain(core, length, due, gap):
    """Returns the core with one more plain task, or None if its plan would be too long or the core too large."""
    if length > min(due, MAX_PLAN):
        return None
    try:
        return core.changed(tasks=core.tasks + (Task.plain(length, due, gap),))
    except TooLarge:
        return None

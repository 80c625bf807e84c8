"""Plans for the tests: drawn ones, and what two of them have in common."""

import random

from firstbreach.halls import Hall, Taking
from joints_model import drawn_level

NAMES = ("north", "a", "zzzzzzzz", "b", "south")


def drawn_plan(seed, most_weight=150):
    """The levels and the hall, or None, of a plan."""
    draw = random.Random(seed)
    names = draw.sample(NAMES, draw.randint(1, 3))
    levels = {name: drawn_level(draw.randint(0, 9999), most_weight) for name in names}
    return levels, draw.choice((None, drawn_hall_for(draw, len(names))))


def drawn_hall_for(draw, cores):
    """A hall with this many queues."""
    queues = [[] for _ in range(cores)]
    for number in draw.sample(range(4), 4)[:draw.randint(0, 4)]:
        draw.choice(queues).append(number)
    numbers = sorted(number for queue in queues for number in queue)
    queues = [[numbers.index(number) for number in queue] for queue in queues]
    least = [draw.randint(0, 3) for _ in range(draw.randint(1, 3))]
    rules = draw.sample(("again", "any", "half"), draw.randint(0, 3))
    return Hall(queues, Taking(least, *rules))


def told_level(level):
    """All that a level has, as values that can be compared."""
    found = {}
    for path in level:
        core = level[path]
        supply = (core.supply.size, core.supply.steps, core.supply.starts)
        tasks = [(task.nodes, task.edges, bool(task.steady)) for task in core.tasks]
        found[path] = (supply, tasks, core.choice.order, core.choice.rules, core.door, core.guard)
    return found


def told_plan(levels, hall):
    """All that a plan has, as values that can be compared."""
    cores = [(name, told_level(level)) for name, level in levels.items()]
    if hall is None:
        return (cores, None)
    return (cores, (hall.queues, hall.taking.least, hall.taking.rules))

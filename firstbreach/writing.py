"""Writing: the text of the plan of a house."""

from firstbreach.errors import InvalidHouse
from firstbreach.spelling import is_name

MAX_LEVELS = 3


def plan_text(levels, hall=None):
    """Returns the text of the plan."""
    check_plan(levels, hall)
    lines = []
    for name, level in levels.items():
        for path in level.paths:
            lines.extend(block_lines(name, path, level[path]))
    if hall is not None:
        lines.extend(hall_lines(hall))
    return "".join([line + "\n" for line in lines])


def check_plan(levels, hall):
    """Raises InvalidHouse if these are not the plan of a house."""
    if not 1 <= len(levels) <= MAX_LEVELS or not all([is_name(name) for name in levels]):
        raise InvalidHouse("a house has 1 to 3 levels, by names")
    if hall is not None and len(hall.queues) != len(levels):
        raise InvalidHouse("the hall has another number of queues")


def block_lines(name, path, core):
    """Returns the list of the lines of the core with this path of the level with this name."""
    lines = [line_of(["core", name] + numbers_of(path)), supply_line(core.supply)]
    lines.append(line_of(["choice", core.choice.order] + list(core.choice.rules)))
    lines.append(line_of(["door", core.door]))
    lines.append(line_of(["guard", core.guard]))
    for task in core.tasks:
        lines.extend(task_lines(task))
    return lines


def supply_line(supply):
    """Returns the line of the supply."""
    steps = [f"{state}:{tick}:{goal}" for state, tick, goal in supply.steps]
    return line_of(["supply", str(supply.size), ",".join(numbers_of(supply.starts))] + steps)


def task_lines(task):
    """Returns the list of the lines of the task."""
    lines = ["task steady" if task.steady else "task"]
    for plan, due in task.nodes:
        lines.append(line_of(["node", str(due)] + [entry if entry != "" else "-" for entry in plan]))
    for edge in task.edges:
        lines.append(line_of(["edge"] + numbers_of(edge)))
    return lines


def hall_lines(hall):
    """Returns the list of the lines of the hall."""
    taking = hall.taking
    lines = [line_of(["taking", ",".join(numbers_of(taking.least))] + list(taking.rules))]
    for queue in hall.queues:
        lines.append(line_of(["queue"] + numbers_of(queue)))
    return lines


def numbers_of(numbers):
    """Returns the list of the words of these numbers."""
    return [str(number) for number in numbers]


def line_of(words):
    """Returns the line of these words."""
    return " ".join(words)

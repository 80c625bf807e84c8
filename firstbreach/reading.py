"""Reading: the plan of a house from its text."""

from firstbreach.choices import Choice
from firstbreach.cores import Core
from firstbreach.errors import BadText, BreachError
from firstbreach.halls import Hall, Taking
from firstbreach.levels import Level
from firstbreach.outline import lines_of
from firstbreach.supplies import Supply
from firstbreach.tasks import Task


class Block:
    """The lines of one core: pairs of the number of a line and its words, and the tasks, which are TaskLines."""

    def __init__(self, number, parts):
        self.number = number
        self.name = parts[1]
        self.path = numbers_in(parts[2:])
        self.supply_line = (number, [])
        # A line that is missing means the same as these words.
        self.choice_line = (number, ["choice", "first"])
        self.door = "shut"
        self.guard = "cut"
        self.task_blocks = []

    def take(self, number, parts):
        """Takes the line with this number and these words, which is one of this block."""
        kind = parts[0]
        if kind == "supply":
            self.supply_line = (number, parts)
        elif kind == "choice":
            self.choice_line = (number, parts)
        elif kind == "door":
            self.door = parts[1]
        elif kind == "guard":
            self.guard = parts[1]
        elif kind == "task":
            self.task_blocks.append(TaskLines(number, len(parts) == 2))
        else:
            self.task_blocks[-1].take(parts)


class TaskLines:
    """The lines of one task."""

    def __init__(self, number, steady):
        self.number = number
        self.steady = steady
        self.nodes = []
        self.edges = []

    def take(self, parts):
        """Takes the words of a line node or edge."""
        if parts[0] == "node":
            plan = ["" if entry == "-" else entry for entry in parts[2:]]
            self.nodes.append((plan, int(parts[1])))
        else:
            self.edges.append(numbers_in(parts[1:]))


class Builder:
    """The building of parts, with those that raise an error by their lines."""

    def __init__(self):
        self._faults = {}

    def attempt(self, number, kind, needs):
        """Returns the part of this kind of the line with this number, or None.

        It is not built if something that it needs was not.
        """
        if None in needs:
            return None
        try:
            return built(kind, needs)
        except BreachError:
            self._faults[number] = (kind, needs)
            return None

    def check(self):
        """Raises BadText from the error with the least line, if there is one."""
        if not self._faults:
            return
        number = min(list(self._faults))
        kind, needs = self._faults[number]
        try:
            built(kind, needs)
        except BreachError as why:
            raise BadText(number, 0) from why


def read_plan(text):
    """Returns the pair (levels, hall) of the text of a plan."""
    blocks = []
    taking_line = None
    queues = []
    for number, parts in enumerate(lines_of(text), start=1):
        if parts[0] == "core":
            blocks.append(Block(number, parts))
        elif parts[0] == "taking":
            taking_line = (number, parts)
        elif parts[0] == "queue":
            queues.append(numbers_in(parts[1:]))
        else:
            blocks[-1].take(number, parts)
    builder = Builder()
    levels = levels_of(builder, blocks)
    hall = None if taking_line is None else hall_of(builder, taking_line, queues)
    builder.check()
    return (levels, hall)


def levels_of(builder, blocks):
    """Returns the dict of the levels by name, in the order of the blocks."""
    found = {}
    # The guests of a core stand behind it.
    for block in blocks[::-1]:
        core = core_of(builder, block)
        guests = {path[-1]: found[(name, path)] for name, path in found if is_guest(block, name, path)}
        needs = [core, None if None in list(guests.values()) else guests]
        found[(block.name, block.path)] = builder.attempt(block.number, "level", needs)
    return {block.name: found[(block.name, ())] for block in blocks if block.path == ()}


def is_guest(block, name, path):
    """Returns whether the core with this name and path is the core of a guest of the core of the block."""
    return name == block.name and len(path) == len(block.path) + 1 and path[:-1] == block.path


def core_of(builder, block):
    """Returns the core of the block, or None."""
    number, parts = block.supply_line
    needs = [builder.attempt(number, "supply", [parts[1:]])]
    number, parts = block.choice_line
    needs.append(builder.attempt(number, "choice", [parts[1:]]))
    needs.extend([block.door, block.guard])
    for task in block.task_blocks:
        needs.append(builder.attempt(task.number, "task", [task.nodes, task.edges, task.steady]))
    return builder.attempt(block.number, "core", needs)


def hall_of(builder, taking_line, queues):
    """Returns the hall, or None."""
    number, parts = taking_line
    taking = builder.attempt(number, "taking", [parts[1:]])
    return builder.attempt(number, "hall", [queues, taking])


def built(kind, needs):
    """Returns the part of this kind that is made of what it needs."""
    if kind == "supply":
        return supply_of(needs[0])
    if kind == "choice":
        order, *rules = needs[0]
        return Choice(order, *rules)
    if kind == "task":
        nodes, edges, steady = needs
        return Task(nodes, edges, steady=steady)
    if kind == "core":
        supply, choice, door, guard, *tasks = needs
        return Core(supply, *tasks, choice=choice, door=door, guard=guard)
    if kind == "level":
        core, guests = needs
        return Level(core, guests)
    if kind == "taking":
        least, *rules = needs[0]
        entries = numbers_in(least.split(","))
        return Taking(entries, *rules)
    queues, taking = needs
    return Hall(queues, taking)


def supply_of(parts):
    """Returns the supply of the words behind the word supply."""
    if parts[0] == "always":
        return Supply.always()
    if parts[0] == "share":
        return Supply.share(int(parts[1]), int(parts[2]))
    steps = [numbers_in(part.split(":")) for part in parts[2:]]
    return Supply(int(parts[0]), steps, starts=numbers_in(parts[1].split(",")))


def numbers_in(parts):
    """Returns the tuple of the numbers of these words."""
    return tuple([int(part) for part in parts])

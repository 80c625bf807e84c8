"""Cores: what can happen in each tick, and which parties then break their books."""

from firstbreach.choices import Choice, blocked_by
from firstbreach.errors import BadRow, InvalidCore, TooLarge, UnknownParty
from firstbreach.tasks import NONE

DOORS = ("shut", "open")
GUARDS = ("cut", "after", "trust")
MAX_TASKS = 3
MAX_WEIGHT = 100000


class Core:
    """A supply, tasks, a choice, a door and a guard."""

    def __init__(self, supply, *tasks, choice=None, door="shut", guard="cut"):
        if len(tasks) > MAX_TASKS or door not in DOORS or guard not in GUARDS:
            raise InvalidCore("a core breaks a rule")
        self.supply = supply
        self.tasks = tuple(tasks)
        self.choice = Choice() if choice is None else choice
        self.door = door
        self.guard = guard
        self.weight = weight_of(supply, tasks)
        if self.weight > MAX_WEIGHT:
            raise TooLarge(MAX_WEIGHT)
        self.parties = parties_of(len(tasks))

    def __iter__(self):
        return iter(self.tasks)

    def changed(self, *, supply=None, tasks=None, choice=None, door=None, guard=None):
        """Returns a new core with what is not None in place of the own."""
        new_supply = self.supply if supply is None else supply
        new_tasks = self.tasks if tasks is None else tasks
        new_choice = self.choice if choice is None else choice
        new_door = self.door if door is None else door
        new_guard = self.guard if guard is None else guard
        return Core(new_supply, *new_tasks, choice=new_choice, door=new_door, guard=new_guard)

    def start(self):
        """Returns the standing at the start."""
        return (self.supply.starts, tuple([NONE for _ in self.tasks]))

    def begun(self, start):
        """Returns the standing start, or the one at the start if it is None."""
        if start is None:
            return self.start()
        states, statuses = start
        return (tuple(states), tuple(statuses))

    def arrived(self, standing, comes):
        """Returns the tuple of the statuses after the arrivals."""
        statuses = list(standing[1])
        for number, node in enumerate(comes):
            if node >= 0:
                statuses[number] = self.tasks[number].come(statuses[number], node, self.door)
        return tuple(statuses)

    def chosen(self, standing, comes):
        """Returns the number of the job that the choice chooses after the arrivals, or -1."""
        return self.choice(self.tasks, self.arrived(standing, comes), self.guard)

    def after(self, standing, row):
        """Returns the standing after the row."""
        if not self.is_possible(standing, row):
            raise BadRow(0)
        return self.led_to(standing, row)

    def led_to(self, standing, row):
        """Returns the standing after a row that is possible."""
        bit, comes, ran, more = row
        statuses = self.passed(self.arrived(standing, comes), ran, more)
        return (self.supply.after(standing[0], bit), statuses)

    def passed(self, statuses, ran, more):
        """Returns the statuses at the end of a tick, from those after its arrivals."""
        passed = list(statuses)
        if ran >= 0:
            passed[ran] = self.tasks[ran].ran(passed[ran], more, self.guard)
        return tuple([task.aged(status) for task, status in zip(self.tasks, passed)])

    def is_possible(self, standing, row):
        """Returns whether the row is possible in the standing."""
        bit, comes, ran, more = row
        if bit not in (0, 1) or len(comes) != len(self.tasks):
            return False
        if not all([-1 <= node < len(task.nodes) for node, task in zip(comes, self.tasks)]):
            return False
        return (ran, more) in self.runnings(self.arrived(standing, comes), bit, ())

    def runnings(self, statuses, bit, kept):
        """Returns the ascending list of the pairs (ran, more) that may follow these statuses after the arrivals.

        Left out is what is a breach of the choice or the needs of a task, if they are in kept.
        """
        pairs = []
        for ran in self.runners(statuses, bit, kept):
            pairs.append((ran, 0))
            if ran >= 0 and f"needs{ran}" not in kept and self.tasks[ran].may_ask(statuses[ran]):
                pairs.append((ran, 1))
        return pairs

    def runners(self, statuses, bit, kept):
        """Returns the ascending list of the numbers, or -1, of the jobs that may run, as runnings does."""
        if bit == 0:
            return [-1]
        if "choice" in kept:
            return [self.choice(self.tasks, statuses, self.guard)]
        numbers = [number for number, task in enumerate(self.tasks) if task.unfinished(statuses[number])]
        return [-1] + [number for number in numbers if blocked_by(self.tasks, statuses, number) < 0]

    def comings(self, standing, kept):
        """Returns the ascending list of the tuples of the jobs that may come.

        Left out is what is a breach of the gaps of a task, if they are in kept.
        """
        found = [()]
        for number, task in enumerate(self.tasks):
            nodes = list(range(-1, len(task.nodes)))
            if f"gaps{number}" in kept:
                nodes = [node for node in nodes if not breaks_gaps(task, standing[1][number], node)]
            found = [comes + (node,) for comes in found for node in nodes]
        return found

    def breaches(self, standing, row):
        """Returns the ascending tuple of the parties of which the row is a breach."""
        if not self.is_possible(standing, row):
            raise BadRow(0)
        bit, comes, ran, more = row
        states, statuses = standing
        parties = []
        if states and not self.supply.after(states, bit):
            parties.append("supply")
        if bit == 1 and ran != self.chosen(standing, comes):
            parties.append("choice")
        for number, task in enumerate(self.tasks):
            if breaks_gaps(task, statuses[number], comes[number]):
                parties.append(f"gaps{number}")
        if more == 1:
            parties.append(f"needs{ran}")
        return tuple(sorted(parties))

    def options(self, standing, kept):
        """Yields the possible rows that are no breach of any party in kept, ascending."""
        self.check_parties(kept)
        for bit in (0, 1):
            if "supply" in kept and standing[0] and not self.supply.after(standing[0], bit):
                continue
            for comes in self.comings(standing, kept):
                for ran, more in self.runnings(self.arrived(standing, comes), bit, kept):
                    yield (bit, comes, ran, more)

    def check_parties(self, kept):
        """Raises UnknownParty for the first listed party that the core lacks."""
        for party in kept:
            if party not in self.parties:
                raise UnknownParty(party)

    def play(self, rows, *, start=None):
        """Returns the list of the standings after each of the rows."""
        standing = self.begun(start)
        standings = []
        for index, row in enumerate(rows):
            if not self.is_possible(standing, row):
                raise BadRow(index)
            standing = self.led_to(standing, row)
            standings.append(standing)
        return standings


def weight_of(supply, tasks):
    """Returns the weight of a core with this supply and these tasks."""
    weight = supply.size
    for task in tasks:
        weight = weight * (1 + sum([(task.cap(k) + 1) * (len(node[0]) + 2) for k, node in enumerate(task.nodes)]))
    return weight


def parties_of(count):
    """Returns the ascending tuple of the parties of a core with this many tasks."""
    parties = ["choice", "supply"]
    for number in range(count):
        parties.append(f"gaps{number}")
        parties.append(f"needs{number}")
    return tuple(sorted(parties))


def breaks_gaps(task, status, node):
    """Returns whether it breaks the gaps of the task if a job of this node, or none if it is -1, comes now."""
    if node < 0:
        return task.owes(status)
    return not task.allows(status, node)

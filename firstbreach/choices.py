"""Choices: which job runs in a given tick."""

from firstbreach.errors import InvalidChoice

ORDERS = ("first", "last", "dues")
RULES = ("ceil", "lend")


class Choice:
    """An order, and rules about jobs that wait for locks."""

    def __init__(self, order="first", *rules):
        self.order = order
        self.rules = tuple(sorted(rules))
        if order not in ORDERS or not all([rule in RULES for rule in rules]) or len(set(rules)) != len(rules):
            raise InvalidChoice("there is no such choice")

    def levels(self, tasks):
        """Returns the tuple of the levels of the tasks."""
        numbers = list(range(len(tasks)))
        if self.order == "first":
            return tuple(numbers)
        if self.order == "last":
            return tuple(numbers[::-1])
        dues = [min([due for _, due in task.nodes]) for task in tasks]
        order = [number for _, number in sorted(list(zip(dues, numbers)))]
        return tuple([order.index(number) for number in numbers])

    def ceiling(self, tasks, lock):
        """Returns the least level of the tasks that have a plan which uses the lock, or -1."""
        levels = self.levels(tasks)
        return min([levels[number] for number, task in enumerate(tasks) if uses(task, lock)], default=-1)

    def urgent(self, tasks, statuses, guard):
        """Returns the list of the numbers of the jobs, the most urgent one first."""
        places = []
        for number, (task, status) in enumerate(zip(tasks, statuses)):
            if task.unfinished(status):
                asks = status[3] if guard == "after" else 0
                places.append((asks, self.rank(number, task, status), number))
        return [number for _, _, number in sorted(places)]

    def rank(self, number, task, status):
        """Returns an integer that is less for a job that the order puts ahead; equal ones go by number."""
        if self.order == "first":
            return number
        if self.order == "last":
            return -number
        node, age, _, _ = status
        return task.nodes[node][1] - age

    def blocker(self, tasks, statuses, number):
        """Returns the number of the job for which the job of this task waits, or -1."""
        found = blocked_by(tasks, statuses, number)
        if found < 0 and "ceil" in self.rules:
            return self.held_back_by(tasks, statuses, number)
        return found

    def held_back_by(self, tasks, statuses, number):
        """Returns the blocker of a job that is not blocked, if the rule "ceil" holds it back, otherwise -1."""
        if tasks[number].needed(statuses[number]) == "":
            return -1
        holders = locks_of_others(tasks, statuses, number)
        ceilings = sorted([(self.ceiling(tasks, lock), lock) for lock in holders])
        if not ceilings or ceilings[0][0] > self.levels(tasks)[number]:
            return -1
        return holders[ceilings[0][1]]

    def __call__(self, tasks, statuses, guard):
        """Returns the number of the chosen job, or -1."""
        for number in self.urgent(tasks, statuses, guard):
            chosen = self.led_to(tasks, statuses, number)
            if chosen >= 0:
                return chosen
        return -1

    def led_to(self, tasks, statuses, number):
        """Returns the job to choose when this job is looked at, or -1 if the next one is to be looked at."""
        met = []
        while number not in met:
            met.append(number)
            following = self.blocker(tasks, statuses, number)
            if following < 0:
                return number
            if "lend" not in self.rules:
                return -1
            number = following
        return -1


def uses(task, lock):
    """Returns whether a plan of the task uses the lock."""
    return any([lock in entry for plan, _ in task.nodes for entry in plan])


def locks_of_others(tasks, statuses, number):
    """Returns a dict from the locks that jobs of other tasks hold to the numbers of these jobs."""
    holders = {}
    for other, (task, status) in enumerate(zip(tasks, statuses)):
        if other != number:
            for lock in task.held(status):
                if lock not in holders:
                    holders[lock] = other
    return holders


def blocked_by(tasks, statuses, number):
    """Returns the blocker of the job of this task if it is blocked, otherwise -1."""
    needed = tasks[number].needed(statuses[number])
    if needed == "":
        return -1
    holders = locks_of_others(tasks, statuses, number)
    for lock in needed:
        if lock in holders:
            return holders[lock]
    return -1

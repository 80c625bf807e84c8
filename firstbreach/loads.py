"""Loads: how much work tasks ask for in the long run."""

from math import gcd


class Load:
    """The greatest load of a round of a task, with such a round and numbers that show that no round has more."""

    def __init__(self, worth, nodes, numbers):
        self.asked, self.ticks = worth
        self.nodes = list(nodes)
        self.numbers = tuple(numbers)


def load(task):
    """Returns the load of the task."""
    greatest = (0, 1)
    nodes = []
    for edges in rounds_of(task):
        asked, ticks = load_of(task, edges)
        if asked * greatest[1] > greatest[0] * ticks:
            greatest = (asked, ticks)
            nodes = [u for u, _, _ in edges]
    return Load(greatest, nodes, numbers_for(task, greatest))


def rounds_of(task):
    """Returns the list of the rounds that pass no node twice, as lists of edges; no other round has a greater load."""
    rounds = [[(u, v, gap)] for u, v, gap in task.edges if u == v]
    across = [(u, v, gap) for u, v, gap in task.edges if u != v]
    if len(across) == 2:
        rounds.append(across)
    return rounds


def load_of(task, edges):
    """Returns the pair of the numerator and the denominator, in lowest terms, of the load of this round."""
    asked = sum([len(task.nodes[u][0]) for u, _, _ in edges])
    return lowest(asked, sum([gap for _, _, gap in edges]))


def lowest(above, below):
    """Returns the pair of these two in lowest terms."""
    common = gcd(above, below)
    return (above // common, below // common)


def numbers_for(task, greatest):
    """Returns the tuple of the numbers of a Load with this greatest load of a round."""
    asked, ticks = greatest
    numbers = [0 for _ in task.nodes]
    # No round adds anything, so that a way through all nodes is as good as any longer one.
    for _ in task.nodes:
        for u, v, gap in task.edges:
            numbers[v] = max(numbers[v], numbers[u] + ticks * len(task.nodes[u][0]) - asked * gap)
    return tuple(numbers)


def total_load(tasks):
    """Returns the pair of the numerator and the denominator, in lowest terms, of the sum of the loads of the tasks."""
    asked, ticks = 0, 1
    for task in tasks:
        worth = load(task)
        asked, ticks = lowest(asked * worth.ticks + worth.asked * ticks, ticks * worth.ticks)
    return (asked, ticks)

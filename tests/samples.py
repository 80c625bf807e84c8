"""Samples for the tests: supplies, tasks and cores drawn from seeds, and words counted out by hand."""

import itertools
import random

from firstbreach.choices import Choice
from firstbreach.cores import Core
from firstbreach.errors import TooLarge
from firstbreach.supplies import Supply
from firstbreach.tasks import Task


def all_words(count):
    return list(itertools.product((0, 1), repeat=count))


def follow(steps, states, word):
    """The states to which the word leads from any of the states."""
    states = set(states)
    for bit in word:
        states = {goal for state, tick, goal in steps if state in states and tick == bit}
    return states


def grown_words(steps, states, count):
    found = [((), set(states))]
    for _ in range(count):
        longer = [(word + (bit,), follow(steps, states, (bit,))) for word, states in found for bit in (0, 1)]
        found = [(word, states) for word, states in longer if states]
    return [word for word, _ in found]


def words_of(supply, count):
    return grown_words(supply.steps, supply.starts, count)


def states_that_come(supply):
    found = set(supply.starts)
    while True:
        more = found | {goal for state, _, goal in supply.steps if state in found}
        if more == found:
            return found
        found = more


def windows_of(supply, count):
    return grown_words(supply.steps, states_that_come(supply), count)


def drawn_supply(seed, most=4):
    draw = random.Random(seed)
    size = draw.randint(1, most)
    every = [(s, t, n) for s in range(size) for t in (0, 1) for n in range(size)]
    steps = {draw.choice([step for step in every if step[0] == state]) for state in range(size)}
    steps |= set(draw.sample(every, draw.randint(0, min(len(every), size + 1))))
    starts = draw.sample(range(size), draw.randint(1, min(2, size)))
    listed = list(steps)
    draw.shuffle(listed)
    return Supply(size, listed, starts=starts)


# Plans that take a second lock while they hold a first one, from which rings come.
CROSSED = (("a", "ab"), ("b", "ab"), ("b", "bc"), ("c", "ac"), ("a", "ab", "b"))


def drawn_plan(draw, locks):
    if draw.random() < 0.4:
        return draw.choice(CROSSED)
    return tuple(draw.choice(locks) for _ in range(draw.randint(1, 3)))


def drawn_task(draw, locks=("", "", "a", "b", "ab"), most_due=5):
    kind = draw.random()
    if kind < 0.15:
        length = draw.randint(1, 2)
        return Task.serving(length, draw.randint(length, 4))
    if kind < 0.3:
        plan = drawn_plan(draw, locks)
        due = draw.randint(len(plan), most_due)
        return Task([(plan, due)], [(0, 0, draw.randint(due, min(8, due + 2)))], steady=True)
    nodes = []
    for _ in range(draw.choice((1, 1, 2))):
        plan = drawn_plan(draw, locks)
        nodes.append((plan, draw.randint(len(plan), most_due)))
    pairs = [(u, v) for u in range(len(nodes)) for v in range(len(nodes))]
    chosen = draw.sample(pairs, draw.randint(0, len(pairs)))
    return Task(nodes, [(u, v, draw.randint(nodes[u][1], min(8, nodes[u][1] + 2))) for u, v in chosen])


def drawn_core(seed, most_tasks=3, most_weight=6000):
    """A core with every kind of part; draws again until it is small enough."""
    draw = random.Random(seed)
    while True:
        tasks = [drawn_task(draw) for _ in range(draw.randint(0, most_tasks))]
        rules = draw.sample(("lend", "ceil"), draw.randint(0, 2))
        choice = Choice(draw.choice(("first", "last", "dues")), *rules)
        supply = draw.choice((Supply.always(), Supply.share(1, 2), Supply.share(2, 3), drawn_supply(seed, 3)))
        door = draw.choice(("shut", "open"))
        guard = draw.choice(("cut", "after", "trust"))
        try:
            core = Core(supply, *tasks, choice=choice, door=door, guard=guard)
        except TooLarge:
            continue
        if core.weight <= most_weight:
            return core


def graph_of(core, kept, start=None):
    """A dict from each standing to which such runs lead to the list of all its (row, standing after it)."""
    graph = {}
    waiting = [core.start() if start is None else start]
    while waiting:
        standing = waiting.pop()
        if standing not in graph:
            graph[standing] = [(row, core.after(standing, row)) for row in core.options(standing, kept)]
            waiting += [after for _, after in graph[standing]]
    return graph


def drawn_run(core, seed, count, kept=()):
    """The rows of a drawn run in which jobs run as often as they can, and the standings after them."""
    draw = random.Random(seed)
    standing = core.start()
    rows, standings = [], []
    for _ in range(count):
        options = list(core.options(standing, kept))
        row = draw.choice([row for row in options if row[2] >= 0] or options)
        standing = core.after(standing, row)
        rows.append(row)
        standings.append(standing)
    return rows, standings


def keeps_books(core, rows, kept, start=None):
    """Whether the parties in kept keep their books in the run."""
    standing = core.start() if start is None else start
    for row in rows:
        if set(core.breaches(standing, row)) & set(kept):
            return False
        standing = core.after(standing, row)
    return True

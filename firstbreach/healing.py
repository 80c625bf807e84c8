"""Healing: which changes of a core make promises hold."""

from firstbreach.choices import Choice
from firstbreach.errors import (
    InvalidChange, InvalidChoice, InvalidCore, InvalidPromise, InvalidSupply, InvalidTask, TooLarge
)
from firstbreach.judging import judge
from firstbreach.parts import is_part, parts_of
from firstbreach.promises import first_mark
from firstbreach.supplies import Supply
from firstbreach.tasks import Task

OF_NODES = ("due", "plan")
KINDS = ("order", "rules", "door", "guard", "share", "due", "plan")


def apply_change(core, change):
    """Returns a new core after the change."""
    if change[0] not in KINDS or (change[0] in OF_NODES and not has_node(core, change[1], change[2])):
        raise InvalidChange(change)
    try:
        return after_change(core, change)
    except (InvalidSupply, InvalidTask, InvalidChoice, InvalidCore, TooLarge) as why:
        raise InvalidChange(change) from why


def has_node(core, task, node):
    """Returns whether the core has a task with this number that has a node with this number."""
    return 0 <= task < len(core.tasks) and 0 <= node < len(core.tasks[task].nodes)


def after_change(core, change):
    """Returns a new core after a change of a known kind, of a node that exists if it is one of a node."""
    kind, worth = change[0], change[1]
    if kind == "order":
        rules = core.choice.rules
        return core.changed(choice=Choice(worth, *rules))
    if kind == "rules":
        return core.changed(choice=Choice(core.choice.order, *worth))
    if kind == "door":
        return core.changed(door=worth)
    if kind == "guard":
        return core.changed(guard=worth)
    if kind == "share":
        return core.changed(supply=Supply.share(worth, change[2]))
    tasks = list(core.tasks)
    tasks[worth] = with_node(tasks[worth], kind, change[2], change[3])
    return core.changed(tasks=tasks)


def with_node(task, kind, node, worth):
    """Returns the task with another due or plan of this node."""
    nodes = list(task.nodes)
    plan, due = nodes[node]
    nodes[node] = (plan, worth) if kind == "due" else (worth, due)
    return Task(nodes, task.edges, steady=task.steady)


def healings(core, promises, changes):
    """Returns the list of the least sets of changes that heal, as tuples of indexes, smaller ones first."""
    found = []
    for chosen in parts_of(list(range(len(changes)))):
        if not any([is_part(least, chosen) for least in found]) and heals(core, promises, changes, chosen):
            found.append(chosen)
    return found


def heals(core, promises, changes, chosen):
    """Returns whether the chosen changes heal the core."""
    try:
        return unhealed(core, promises, changes, chosen) is None
    except (InvalidChange, InvalidPromise):
        return False


def unhealed(core, promises, changes, chosen):
    """Returns a pair of the first promise that does not hold after the chosen changes and a run, or None."""
    changed = core
    for index in chosen:
        changed = apply_change(changed, changes[index])
    for promise in promises:
        first_mark(changed, promise)
    for promise in promises:
        verdict = judge(changed, promise, changed.parties)
        if not verdict:
            return (promise, verdict.run)
    return None

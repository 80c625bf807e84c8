"""Points 9 to 21 told once more, plainly and slowly, to hold the program against."""

import itertools

NONE = (-1, 0, 0, 0)


def unfinished(task, status):
    node, _, done, over = status
    return status != NONE and (done < len(task.nodes[node][0]) or over == 1)


def lock_sets(task, status):
    """The sets of the locks that are held and needed."""
    node, _, done, over = status
    if not unfinished(task, status) or over == 1:
        return set(), set()
    plan = task.nodes[node][0]
    coming = set(plan[done])
    held = coming & set(plan[done - 1]) if done > 0 else set()
    return held, coming - held


def levels(choice, tasks):
    if choice.order == "first":
        order = list(range(len(tasks)))
    elif choice.order == "last":
        order = list(range(len(tasks)))[::-1]
    else:
        order = sorted(range(len(tasks)), key=lambda i: (min(node[1] for node in tasks[i].nodes), i))
    return {number: level for level, number in enumerate(order)}


def ceiling(choice, tasks, lock):
    level = levels(choice, tasks)
    return min(level[i] for i, task in enumerate(tasks) if any(lock in e for plan, _ in task.nodes for e in plan))


def holders_beside(tasks, statuses, number):
    return {
        lock: i
        for i in range(len(tasks)) if i != number
        for lock in sorted(lock_sets(tasks[i], statuses[i])[0])
    }


def waiting(choice, tasks, statuses, number):
    """A pair: "blocked", "back" or "", and the blocker or -1."""
    needed = lock_sets(tasks[number], statuses[number])[1]
    beside = holders_beside(tasks, statuses, number)
    both = sorted(needed & set(beside))
    if both:
        return "blocked", beside[both[0]]
    if "ceil" in choice.rules and needed:
        ranked = sorted((ceiling(choice, tasks, lock), lock) for lock in beside)
        if ranked and ranked[0][0] <= levels(choice, tasks)[number]:
            return "back", beside[ranked[0][1]]
    return "", -1


def chosen(choice, tasks, statuses, guard):
    def urgency(i):
        node, age, _, over = statuses[i]
        order = {"first": i, "last": -i}.get(choice.order)
        if order is None:
            order = tasks[i].nodes[node][1] - age
        return (over if guard == "after" else 0, order, i)

    jobs = sorted((i for i in range(len(tasks)) if unfinished(tasks[i], statuses[i])), key=urgency)
    for job in jobs:
        met = set()
        while job not in met:
            met.add(job)
            kind, blocker = waiting(choice, tasks, statuses, job)
            if kind == "":
                return job
            if "lend" not in choice.rules:
                break
            job = blocker
    return -1


def gaps_of(task, u, v):
    return [gap for a, b, gap in task.edges if (a, b) == (u, v)]


def allowed(task, status, node):
    return status == NONE or any(gap <= status[1] for gap in gaps_of(task, status[0], node))


def cap(task, node):
    return max([task.nodes[node][1]] + [gap for u, _, gap in task.edges if u == node])


def arrivals(core, statuses, comes):
    after = []
    for task, status, node in zip(core.tasks, statuses, comes):
        turned = unfinished(task, status) or (core.door == "shut" and not allowed(task, status, node))
        after.append(status if node == -1 or turned else (node, 0, 0, 0))
    return tuple(after)


def possible(core, standing, row):
    bit, comes, ran, more = row
    if bit not in (0, 1) or more not in (0, 1) or len(comes) != len(core.tasks):
        return False
    if any(node not in range(-1, len(task.nodes)) for task, node in zip(core.tasks, comes)):
        return False
    if ran == -1:
        return more == 0
    if ran not in range(len(core.tasks)) or bit == 0:
        return False
    statuses = arrivals(core, standing[1], comes)
    task, status = core.tasks[ran], statuses[ran]
    if not unfinished(task, status) or waiting(core.choice, core.tasks, statuses, ran)[0] == "blocked":
        return False
    return more == 0 or status[3] == 1 or status[2] == len(task.nodes[status[0]][0]) - 1


def step(core, standing, row):
    bit, comes, ran, more = row
    statuses = list(arrivals(core, standing[1], comes))
    states = {goal for state, tick, goal in core.supply.steps if state in standing[0] and tick == bit}
    if ran >= 0:
        node, age, done, over = statuses[ran]
        done = done + 1 if over == 0 else done
        if done == len(core.tasks[ran].nodes[node][0]):
            over = 1 if more == 1 and core.guard != "cut" else 0
        statuses[ran] = (node, age, done, over)
    for i, task in enumerate(core.tasks):
        if statuses[i] != NONE:
            node, age, done, over = statuses[i]
            statuses[i] = (node, min(age + 1, cap(task, node)), done, over)
    return (tuple(sorted(states)), tuple(statuses))


def breaches(core, standing, row):
    bit, comes, ran, more = row
    found = set()
    if standing[0] and not step(core, standing, row)[0]:
        found.add("supply")
    if bit == 1 and ran != chosen(core.choice, core.tasks, arrivals(core, standing[1], comes), core.guard):
        found.add("choice")
    for i, task in enumerate(core.tasks):
        status = standing[1][i]
        owed = task.steady and (status == NONE or status[1] == task.edges[0][2])
        if (comes[i] == -1 and owed) or (comes[i] >= 0 and not allowed(task, status, comes[i])):
            found.add(f"gaps{i}")
    if more == 1:
        found.add(f"needs{ran}")
    return tuple(sorted(found))


def all_rows(core):
    """All rows of the right form, ascending."""
    entries = itertools.product(*[range(-1, len(task.nodes)) for task in core.tasks])
    return list(itertools.product((0, 1), entries, range(-1, len(core.tasks)), (0, 1)))


def options(core, standing, kept):
    rows = [row for row in all_rows(core) if possible(core, standing, row)]
    return [row for row in rows if not set(breaches(core, standing, row)) & set(kept)]


def in_ring(core, standing):
    statuses = standing[1]
    found = []
    for number in range(len(core.tasks)):
        at = number
        for _ in core.tasks:
            kind, blocker = waiting(core.choice, core.tasks, statuses, at)
            if kind != "blocked":
                break
            at = blocker
            if at == number:
                found.append(number)
                break
    return tuple(found)

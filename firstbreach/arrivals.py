"""Arrivals: when the jobs of a task may come, and how much work they may ask for in some ticks on end."""


def first_bad(task, arrivals):
    """Returns the index of the first pair that is not allowed after those before it, or None."""
    for index, pair in enumerate(arrivals):
        if not is_allowed(task, arrivals[:index], pair):
            return index
    return None


def is_allowed(task, earlier, pair):
    """Returns whether the pair (moment, node) is allowed after these earlier ones, which are allowed themselves."""
    moment, node = pair
    if not 0 <= node < len(task.nodes) or moment < 0:
        return False
    if task.steady:
        return moment == len(earlier) * task.edges[0][2]
    if len(earlier) == 0:
        return True
    last_moment, last_node = earlier[-1]
    return any([u == last_node and v == node and gap <= moment - last_moment for u, v, gap in task.edges])


def coming(task, ticks):
    """Yields all lists of arrivals whose moments are less than ticks, ascending; of a steady task just the full one."""
    if task.steady:
        yield [(moment, 0) for moment in range(0, ticks, task.edges[0][2])]
        return
    waiting = [[]]
    while waiting:
        arrivals = waiting.pop()
        first = arrivals[-1][0] if arrivals else 0
        pairs = [(moment, node) for moment in range(first, ticks) for node in range(len(task.nodes))]
        longer = [arrivals + [pair] for pair in pairs if is_allowed(task, arrivals, pair)]
        waiting.extend(longer[::-1])
        yield arrivals


def most_asked(task, ticks):
    """Returns the greatest sum of the plan lengths of jobs that come and are due within this many ticks on end."""
    return sum([len(task.nodes[node][0]) for _, node in asking(task, ticks)])


def asking(task, ticks):
    """Returns arrivals that ask for most in this many ticks, with moments counted from their beginning."""
    sums = sums_asked(task, ticks)
    arrivals = []
    moment = 0
    # What may come next, as triples (sum asked from then on, moment, node).
    choices = [(asked, moment, node) for node, asked in enumerate(sums[-1])]
    while choices and max(choices)[0] > 0:
        _, moment, node = max(choices)
        arrivals.append((moment, node))
        later = [(v, moment + gap) for u, v, gap in task.edges if u == node and moment + gap <= ticks]
        choices = [(sums[ticks - at][v], at, v) for v, at in later]
    return arrivals


def sums_asked(task, ticks):
    """Returns the list that has for each number up to ticks a list with an entry for each node.

    It is the greatest sum of the plan lengths if a job of this node comes first, at once, and the last job of the sum
    is due after this many ticks; 0 if not even the first job is due by then.
    """
    sums = []
    for left in range(max(ticks, 0) + 1):
        row = []
        for node, (plan, due) in enumerate(task.nodes):
            later = [sums[left - gap][v] for u, v, gap in task.edges if u == node and gap <= left]
            row.append(len(plan) + max(later, default=0) if due <= left else 0)
        sums.append(row)
    return sums

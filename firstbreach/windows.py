"""Windows: what a supply gives in some ticks on end, whenever they begin."""

from firstbreach.supplies import first_outside
from firstbreach.trails import steps_to


def parting(a, b):
    """Returns the first of the shortest words of a that are not words of b, or None if a is within b."""
    return first_outside(a, b)


def least_given(supply, ticks):
    """Returns the least sum of a window of this many ticks."""
    sums = least_sums(supply, ticks)[ticks]
    return min([sums[state] for state in supply.reached()])


def most_given(supply, ticks):
    """Returns the greatest sum of a window of this many ticks."""
    sums = [0 for _ in range(supply.size)]
    for _ in range(ticks):
        longer = [-1 for _ in sums]
        for state, tick, goal in supply.steps:
            longer[state] = max(longer[state], tick + sums[goal])
        sums = longer
    return max([sums[state] for state in supply.reached()])


def least_sums(supply, ticks):
    """Returns the list of lists that have for each number up to ticks and each state the least sum from there."""
    sums = [[0 for _ in range(supply.size)]]
    for count in range(ticks):
        longer = [count + 2 for _ in range(supply.size)]
        for state, tick, goal in supply.steps:
            longer[state] = min(longer[state], tick + sums[count][goal])
        sums.append(longer)
    return sums


def poorest(supply, ticks):
    """Returns a pair (lead, window): a window of this many ticks with the least sum, and a word that leads to it."""
    sums = least_sums(supply, ticks)
    _, state = min([(sums[ticks][reached], reached) for reached in supply.reached()])
    lead = word_to(supply, state)
    steps = steps_by_state(supply)
    window = []
    for left in reversed(range(ticks)):
        _, tick, state = min([(tick + sums[left][goal], tick, goal) for tick, goal in steps[state]])
        window.append(tick)
    return (lead, tuple(window))


def steps_by_state(supply):
    """Returns the list that has for each state the list of the pairs (tick, goal) of its steps."""
    steps = [[] for _ in range(supply.size)]
    for state, tick, goal in supply.steps:
        steps[state].append((tick, goal))
    return steps


def word_to(supply, state):
    """Returns a shortest word that leads from a start to the state, which can come."""
    steps = steps_by_state(supply)
    found = list(supply.starts)
    trail = [(-1, -1) for _ in found]
    seen = {start: True for start in found}
    at = 0
    while found[at] != state:
        last = found[at]
        for tick, goal in steps[last]:
            if goal not in seen:
                seen[goal] = True
                found.append(goal)
                trail.append((at, tick))
        at += 1
    return tuple(steps_to(trail, at))


def delay(supply, count):
    """Returns the least number of ticks in which every window has a sum of at least count, or None."""
    if count < 1:
        return 0
    reached = supply.reached()
    steps = steps_by_state(supply)
    order = order_of_gaps(reached, steps)
    if order is None:
        return None
    # For each state the greatest length of a window from there whose sum is less than the counts so far;
    # no sum is less than 0, and -1 makes a tick 1 add nothing then.
    lengths = [-1 for _ in range(supply.size)]
    for _ in range(count):
        longer = [0 for _ in range(supply.size)]
        for state in order:
            for tick, goal in steps[state]:
                longer[state] = max(longer[state], 1 + (lengths[goal] if tick == 1 else longer[goal]))
        lengths = longer
    return 1 + max([lengths[state] for state in reached])


def order_of_gaps(reached, steps):
    """Returns the list of these states with each one behind those to which its ticks 0 lead, or None if they ring."""
    before = {state: [] for state in reached}
    left = {}
    for state in reached:
        goals = [goal for tick, goal in steps[state] if tick == 0]
        left[state] = len(goals)
        for goal in goals:
            before[goal].append(state)
    order = [state for state in reached if left[state] == 0]
    at = 0
    while at < len(order):
        goal = order[at]
        for state in before[goal]:
            left[state] -= 1
            if left[state] == 0:
                order.append(state)
        at += 1
    return order if len(order) == len(reached) else None

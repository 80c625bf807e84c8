"""Settling: whether a hall stops wasting acts, and whether each loose task runs again and again."""

from firstbreach.groups import group_numbers
from firstbreach.trails import steps_to


class Settled:
    """Either numbers that show that something ends, or acts that go on with it for ever."""

    def __init__(self, numbers, lead, loop):
        self.numbers = None if numbers is None else {position: numbers[position] for position in numbers}
        self.lead = None if lead is None else list(lead)
        self.loop = None if loop is None else list(loop)

    def __bool__(self):
        return self.loop is None


def settle(hall):
    """Returns whether the hall settles."""
    positions, trail, acts = explored(hall)
    steps = [[(goal, wasted, (core, pick)) for goal, (core, pick, _, _, wasted) in found] for found in acts]
    return settled(positions, trail, steps)


def serve(hall, task):
    """Returns whether the loose task with this number is served."""
    positions, trail, acts = explored(hall)
    steps = []
    for found in acts:
        without = [(goal, one) for goal, one in found if one[3] != task]
        steps.append([(goal, passes_over(one, task), (one[0], one[1])) for goal, one in without])
    return settled(positions, trail, steps)


def passes_over(act, task):
    """Returns 1 if the act, in which this task does not run, passes the task over, otherwise 0."""
    core, _, (queues, _), ran, _ = act
    return 1 if ran >= 0 and task in queues[core] else 0


def explored(hall):
    """Returns a triple (positions, trail, acts) of all positions to which acts lead, the start first.

    acts has for each position the list of the pairs (place of the position after it, tuple of the act).
    """
    positions = [hall.start()]
    places = {positions[0]: 0}
    trail = [(-1, None)]
    acts = []
    while len(acts) < len(positions):
        at = len(acts)
        found = []
        position = positions[at]
        for one in hall.acts(position):
            core, pick, later, _, _ = one
            if later not in places:
                places[later] = len(positions)
                positions.append(later)
                trail.append((at, (core, pick)))
            found.append((places[later], one))
        acts.append(found)
    return (positions, trail, acts)


def settled(positions, trail, steps):
    """Returns what settle does, for steps that have for each position triples (place after it, cost, act).

    The costs are 0 or 1.
    """
    groups = group_numbers([[step[0] for step in choices] for choices in steps])
    for at, found in enumerate(steps):
        for goal, cost, act in found:
            if cost > 0 and groups[goal] == groups[at]:
                return Settled(None, steps_to(trail, at), [act] + way_in_group(steps, groups, goal, at))
    greatest = greatest_costs(steps, groups)
    return Settled({position: greatest[groups[at]] for at, position in enumerate(positions)}, None, None)


def way_in_group(steps, groups, first, last):
    """Returns the list of the acts of a shortest way between two positions that lead to each other."""
    found = [first]
    trail = [(-1, None)]
    seen = {first: True}
    at = 0
    while found[at] != last:
        here = found[at]
        for goal, _, act in steps[here]:
            if groups[goal] == groups[last] and goal not in seen:
                seen[goal] = True
                found.append(goal)
                trail.append((at, act))
        at += 1
    return steps_to(trail, at)


def greatest_costs(steps, groups):
    """Returns the list of the greatest sums of costs of ways from each group, in which no step costs anything."""
    greatest = [0 for _ in range(max(groups) + 1)]
    # A step leads to the same group or to one with a greater number.
    for group, at in sorted([(group, at) for at, group in enumerate(groups)], reverse=True):
        for goal, cost, _ in steps[at]:
            greatest[group] = max(greatest[group], cost + greatest[groups[goal]])
    return greatest

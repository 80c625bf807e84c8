"""Trails: how a search has come to what it found, and loops in what it found."""


def steps_to(trail, at):
    """Returns the list of the steps to place at of a trail.

    A trail has a pair (place before, step) for each place; a place to which no step leads has -1 before it.
    """
    steps = []
    before, step = trail[at]
    while before >= 0:
        steps.append(step)
        before, step = trail[before]
    return steps[::-1]


def loop_in(steps):
    """Returns the list of the steps of a loop, or None, where a dict has at most one step for each state.

    A step is a triple that begins with its state and ends with the next one.
    """
    done = {}
    for first in steps:
        path = []
        places = {}
        state = first
        while state in steps and state not in done:
            done[state] = True
            places[state] = len(path)
            path.append(steps[state])
            state = steps[state][2]
        if state in places:
            return path[places[state]:]
    return None

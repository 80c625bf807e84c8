"""Trails: how a search has come to what it found."""


def steps_to(trail, at):
    """Returns the list of the steps to place at of a trail.

    A trail has a pair (place before, step) for each place; a place to which no step leads has -1 before it.
    """
    steps = []
    before, step = trail[at]
    while before >= 0:
        steps.append(step)
        before, step = trail[before]
    return steps[::-1]

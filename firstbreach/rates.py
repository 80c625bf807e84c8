"""Rates: what a supply gives in the long run."""

from math import gcd

from firstbreach.supplies import share_of
from firstbreach.trails import loop_in
from firstbreach.windows import parting, steps_by_state, word_to


class Rate:
    """The least mean of a loop of a supply, with a loop that has it and numbers that show that no loop has less."""

    def __init__(self, mean, lead, loop, numbers):
        self.given, self.ticks = mean
        self.lead = tuple(lead)
        self.loop = tuple(loop)
        self.numbers = {state: numbers[state] for state in numbers}


def rate(supply):
    """Returns the rate of the supply."""
    steps = steps_by_state(supply)
    reached = supply.reached()
    loop = loop_in({state: (state,) + steps[state][0] for state in reached})
    while True:
        mean = mean_of(loop)
        numbers, lesser = relaxed(reached, steps, mean)
        if lesser is None:
            break
        loop = lesser
    return Rate(mean, word_to(supply, loop[0][0]), [tick for _, tick, _ in loop], numbers)


def mean_of(loop):
    """Returns the pair of the numerator and the denominator, in lowest terms, of the mean of a list of steps."""
    given = sum([tick for _, tick, _ in loop])
    common = gcd(given, len(loop))
    return (given // common, len(loop) // common)


def relaxed(reached, steps, mean):
    """Returns a pair of numbers as a Rate with this mean has, and None; or of None and a loop with a lesser mean."""
    given, ticks = mean
    numbers = {state: 0 for state in reached}
    before = {}
    order = list(reached)
    changed = True
    while changed:
        changed = False
        for state in order:
            for tick, goal in steps[state]:
                number = numbers[state] + ticks * tick - given
                if number < numbers[goal]:
                    numbers[goal] = number
                    before[goal] = (state, tick, goal)
                    changed = True
        # Steps that have lowered a number and close a loop have a lesser mean.
        loop = loop_in({state: turned(before[state]) for state in before})
        if loop is not None:
            return (None, [turned(step) for step in loop[::-1]])
        # Both directions in turn, so that a chain of states takes few rounds whichever way it is numbered.
        order = order[::-1]
    return (numbers, None)


def turned(step):
    """Returns the step with its ends exchanged."""
    state, tick, goal = step
    return (goal, tick, state)


def shares(supply, longest):
    """Returns the list of the triples (p, q, word) of the greatest share in each period up to longest."""
    found = []
    for period in range(1, longest + 1):
        given = 0
        word = None
        while given < period and word is None:
            word = parting(supply, share_of(given + 1, period))
            if word is None:
                given += 1
        found.append((period, given, word))
    return found

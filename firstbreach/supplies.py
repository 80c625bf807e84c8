"""Supplies: which words of given and kept back ticks a core may get."""

from firstbreach.errors import InvalidSupply, NothingCommon
from firstbreach.trails import steps_to

MAX_STATES = 5000
MAX_PERIOD = 8


class Supply:
    """States, steps between them that give a tick or keep it back, and start states."""

    def __init__(self, size, steps, *, starts=(0,)):
        self.size = size
        self.steps = tuple(sorted([(state, tick, goal) for state, tick, goal in steps]))
        self.starts = tuple(sorted(starts))
        if not is_supply(self.size, self.steps, self.starts):
            raise InvalidSupply("a supply breaks a rule")
        self._goals = goals_by_tick(self.steps)

    @classmethod
    def share(cls, q, p):
        """Returns the supply that gives at least q ticks in each period of p ticks."""
        if not (1 <= p <= MAX_PERIOD and 0 <= q <= p):
            raise InvalidSupply("there is no such share")
        return share_of(q, p)

    @classmethod
    def always(cls):
        """Returns the supply that gives every tick."""
        return cls(1, [(0, 1, 0)])

    def after(self, states, bit):
        """Returns the ascending tuple of the states to which a step with this tick leads from the states."""
        return states_after(self._goals, states, bit)

    def reached(self):
        """Returns the ascending tuple of the states that can come."""
        return reached_states(self)

    def __contains__(self, word):
        states = self.starts
        for bit in word:
            states = states_after(self._goals, states, bit)
        return len(states) > 0

    def words(self, count):
        """Yields all words of this many ticks, ascending."""
        found = [((), self.starts)]
        for _ in range(count):
            longer = [(word + (bit,), self.after(states, bit)) for word, states in found for bit in (0, 1)]
            found = [(word, states) for word, states in longer if states]
        for word, _ in found:
            yield word

    def within(self, other):
        """Returns whether each word of this supply is a word of the other one."""
        return first_outside(self, other) is None

    def __and__(self, other):
        steps = common_steps(self, other)
        lasting = lasting_pairs(steps)
        numbers = {pair: number for number, pair in enumerate(sorted(lasting))}
        starts = [(state, other_state) for state in self.starts for other_state in other.starts]
        kept_starts = [numbers[pair] for pair in starts if pair in numbers]
        if not kept_starts:
            raise NothingCommon("the supplies have no common words that go on for ever")
        kept_steps = [
            (numbers[pair], tick, numbers[goal]) for pair in lasting for tick, goal in steps[pair] if goal in numbers
        ]
        return Supply(len(numbers), kept_steps, starts=kept_starts)

    def __or__(self, other):
        size, steps, starts = reached_part(self, 0)
        other_size, other_steps, other_starts = reached_part(other, size)
        return Supply(size + other_size, steps + other_steps, starts=starts + other_starts)


def share_of(q, p):
    """Returns the share of q in p, also for longer periods than there are shares of."""
    places = [(i, k) for i in range(p) for k in range(min(i, q) + 1) if q - k <= p - i]
    numbers = {place: number for number, place in enumerate(places)}
    numbers[(p, q)] = numbers[(0, 0)]
    steps = []
    for i, k in places:
        for tick, goal in ((0, (i + 1, k)), (1, (i + 1, min(k + 1, q)))):
            if goal in numbers:
                steps.append((numbers[(i, k)], tick, numbers[goal]))
    return Supply(len(places), steps)


def is_supply(size, steps, starts):
    """Returns whether these keep the rules of a supply; steps and starts are ascending tuples."""
    if not (1 <= size <= MAX_STATES and starts):
        return False
    if len(set(steps)) != len(steps) or len(set(starts)) != len(starts):
        return False
    if not all([0 <= state < size for state in starts]):
        return False
    if not all([0 <= state < size and tick in (0, 1) and 0 <= goal < size for state, tick, goal in steps]):
        return False
    return len({state for state, _, _ in steps}) == size


def goals_by_tick(steps):
    """Returns a dict from the pairs (state, tick) of the steps to the ascending tuples of their goals."""
    goals = {}
    for state, tick, goal in steps:
        goals[(state, tick)] = goals.get((state, tick), ()) + (goal,)
    return goals


def states_after(goals, states, bit):
    """Returns the ascending tuple of the states to which these goals lead from the states by this tick."""
    return tuple(sorted({goal for state in states for goal in goals.get((state, bit), ())}))


def reached_states(supply):
    """Returns the ascending tuple of the states that can come."""
    goals = {}
    for state, _, goal in supply.steps:
        goals[state] = goals.get(state, ()) + (goal,)
    waiting = list(supply.starts)
    found = {}
    while waiting:
        state = waiting.pop()
        if state not in found:
            found[state] = True
            waiting.extend([goal for goal in goals[state] if goal not in found])
    return tuple(sorted(list(found)))


def reached_part(supply, first):
    """Returns size, steps and starts of the part that can come, its states numbered from first on."""
    numbers = {state: number for number, state in enumerate(reached_states(supply), start=first)}
    steps = [(numbers[state], tick, numbers[goal]) for state, tick, goal in supply.steps if state in numbers]
    return len(numbers), steps, [numbers[state] for state in supply.starts]


def common_steps(a, b):
    """Returns a dict from the pairs of states to which words of both lead to the lists of their (tick, goal)."""
    goals = goals_by_tick(a.steps)
    other_goals = goals_by_tick(b.steps)
    waiting = [(state, other) for state in a.starts for other in b.starts]
    steps = {}
    while waiting:
        pair = waiting.pop()
        if pair not in steps:
            state, other = pair
            steps[pair] = [
                (tick, (goal, other_goal))
                for tick in (0, 1)
                for goal in goals.get((state, tick), ())
                for other_goal in other_goals.get((other, tick), ())
            ]
            waiting.extend([goal for _, goal in steps[pair] if goal not in steps])
    return steps


def lasting_pairs(steps):
    """Returns the list of the pairs from which steps go on for ever."""
    left = {}
    before = {}
    for pair in steps:
        left[pair] = len(steps[pair])
        for _, goal in steps[pair]:
            before[goal] = before.get(goal, ()) + (pair,)
    ended = [pair for pair in steps if left[pair] == 0]
    while ended:
        goal = ended.pop()
        for pair in before.get(goal, ()):
            left[pair] = left[pair] - 1
            if left[pair] == 0:
                ended.append(pair)
    return [pair for pair in steps if left[pair] > 0]


def first_outside(inner, outer):
    """Returns the first, in ascending order, of the shortest words of inner that are not words of outer, or None."""
    groups = [(inner.starts, outer.starts)]
    trail = [(-1, -1)]
    seen = {(state, outer.starts): True for state in inner.starts}
    at = 0
    while at < len(groups):
        states, others = groups[at]
        for bit in (0, 1):
            goals = inner.after(states, bit)
            other_goals = outer.after(others, bit)
            if goals and not other_goals:
                return tuple(steps_to(trail, at)) + (bit,)
            # A state that an earlier word leads to beside the same states of outer is left to that word.
            fresh = tuple([goal for goal in goals if (goal, other_goals) not in seen])
            for goal in fresh:
                seen[(goal, other_goals)] = True
            if fresh:
                groups.append((fresh, other_goals))
                trail.append((at, bit))
        at += 1
    return None

"""Points 28 and 29, and what point 2 says of demand."""

import itertools
import random
import unittest

from firstbreach.arrivals import first_bad, most_asked
from firstbreach.choices import Choice
from firstbreach.cores import Core
from firstbreach.demand import Demand, demand, room
from firstbreach.errors import InvalidCore, InvalidTask, NotPlain, TooLarge
from firstbreach.judging import judge
from firstbreach.loads import total_load
from firstbreach.promises import Due
from firstbreach.rates import rate
from firstbreach.supplies import Supply
from firstbreach.tasks import Task
from firstbreach.windows import least_given
from samples import drawn_supply, follow, states_that_come, windows_of

DUES = Choice("dues")
ALWAYS = Supply.always()


def plain_core(supply, *tasks, rules=()):
    return Core(supply, *tasks, choice=Choice("dues", *rules))


def drawn_plain_task(draw):
    nodes = []
    for _ in range(draw.choice((1, 1, 2))):
        length = draw.randint(1, 3)
        nodes.append((("",) * length, draw.randint(length, 5)))
    pairs = [(u, v) for u in range(len(nodes)) for v in range(len(nodes))]
    chosen = draw.sample(pairs, draw.randint(0, len(pairs)))
    return Task(nodes, [(u, v, draw.randint(nodes[u][1], 8)) for u, v in chosen])


def drawn_plain_core(seed, most_weight=4000):
    draw = random.Random(seed)
    while True:
        tasks = [drawn_plain_task(draw) for _ in range(draw.randint(0, 2))]
        supply = draw.choice((ALWAYS, Supply.share(2, 3), Supply.share(3, 4), drawn_supply(seed, 3)))
        core = Core(
            supply, *tasks, choice=Choice("dues", *draw.sample(("lend", "ceil"), draw.randint(0, 2))),
            door=draw.choice(("shut", "open")), guard=draw.choice(("cut", "after", "trust")),
        )
        if core.weight <= most_weight:
            return core


def asked_in(core, ticks):
    return sum(most_asked(task, ticks) for task in core.tasks)


def fewest_overfull(core, most):
    """The fewest ticks of an overfull window, or None if there is none up to this many."""
    for ticks in range(most + 1):
        if asked_in(core, ticks) > min(sum(word) for word in windows_of(core.supply, ticks)):
            return ticks
    return None


def place_after(task, place):
    """The pairs (asked, next place) of point 29, told once more."""
    node, count = place
    if node == -1:
        return [(0, place)]
    if count - 1 > 0:
        return [(0, (node, count - 1))]
    plan, due = task.nodes[node]
    later = [(v, gap + task.nodes[v][1] - due) for u, v, gap in task.edges if u == node]
    return [(len(plan), one) for one in (later or [(-1, 0)])]


def differences(core):
    """The greatest difference of the windows that end in each pair, for a core without an overfull window."""
    begins = itertools.product(*[[(v, due) for v, (_, due) in enumerate(task.nodes)] for task in core.tasks])
    found = {(places, state): 0 for places in begins for state in states_that_come(core.supply)}
    changed = True
    while changed:
        changed = False
        for (places, state), worth in list(found.items()):
            joint = list(itertools.product(*[place_after(task, one) for task, one in zip(core.tasks, places)]))
            for one, tick, goal in core.supply.steps:
                for steps in joint if one == state else ():
                    end = (tuple(place for _, place in steps), goal)
                    more = worth + sum(asked for asked, _ in steps) - tick
                    if more > found.get(end, -1000):
                        found[end] = more
                        changed = True
    return found


class DemandCase(unittest.TestCase):
    def check(self, core):
        """Checks all that a demand tells of itself, and returns the number of ticks of its window, or None."""
        told = demand(core)
        self.assertIsInstance(told, Demand)
        if told:
            self.assertIs(bool(told), True)
            self.assertIsNone(told.window)
            self.assertEqual(told.numbers, differences(core))
            return None
        self.assertIs(bool(told), False)
        self.assertIsNone(told.numbers)
        lead, word, arrivals = told.window
        self.assertTrue(follow(core.supply.steps, core.supply.starts, lead + word))
        self.assertEqual(arrivals, sorted(arrivals))
        self.assertGreater(sum(len(core.tasks[i].nodes[node][0]) for _, i, node in arrivals), sum(word))
        for number, task in enumerate(core.tasks):
            own = [(moment, node) for moment, i, node in arrivals if i == number]
            self.assertIsNone(first_bad(task, own))
            self.assertTrue(all(moment + task.nodes[node][1] <= len(word) for moment, node in own))
        return len(word)


class PlainTest(unittest.TestCase):
    def refused(self, core):
        with self.assertRaises(NotPlain):
            demand(core)
        with self.assertRaises(NotPlain):
            room(core, 1, 1)

    def test_another_order(self):
        self.refused(Core(ALWAYS))
        self.refused(Core(ALWAYS, Task.plain(1, 2, 3), choice=Choice("last")))

    def test_a_plan_with_a_lock(self):
        self.refused(plain_core(ALWAYS, Task.plain(1, 2, 2), Task([(("",), 1), (("", "c"), 2)], [(0, 0, 2)])))

    def test_a_steady_task(self):
        self.refused(plain_core(ALWAYS, Task.plain(1, 2, 2), Task.serving(1, 4)))
        self.refused(plain_core(ALWAYS, Task([(("",), 1)], [(0, 0, 2)], steady=True)))

    def test_rules_door_and_guard_do_not_matter(self):
        for rules in ((), ("lend",), ("ceil",), ("ceil", "lend")):
            for door, guard in (("open", "trust"), ("shut", "after")):
                core = Core(ALWAYS, Task.plain(1, 1, 1), choice=Choice("dues", *rules), door=door, guard=guard)
                self.assertTrue(demand(core))
                self.assertEqual(room(core, 1, 1), 0)


class DemandTest(DemandCase):
    def test_a_core_without_tasks(self):
        self.assertIsNone(self.check(plain_core(ALWAYS)))
        self.assertEqual(demand(plain_core(ALWAYS)).numbers, {((), 0): 0})
        never = Supply(2, [(0, 0, 1), (1, 0, 0)])
        self.assertEqual(demand(plain_core(never)).numbers, {((), 0): 0, ((), 1): 0})

    def test_several_starts_and_states_that_cannot_come(self):
        supply = Supply(5, [(0, 1, 0), (1, 0, 3), (2, 1, 2), (3, 1, 3), (4, 0, 4)], starts=(0, 1))
        self.assertEqual(demand(plain_core(supply)).numbers, {((), 0): 0, ((), 1): 0, ((), 3): 0})
        self.assertIsNone(self.check(plain_core(supply, Task.plain(1, 2, 2))))
        self.assertEqual(self.check(plain_core(supply, Task.plain(2, 2, 2))), 2)
        self.assertEqual(demand(plain_core(supply, Task.plain(2, 2, 2))).window, ((), (0, 1), [(0, 0, 0)]))

    def test_numbers_by_hand(self):
        told = demand(plain_core(ALWAYS, Task.plain(1, 2, 3)))
        self.assertEqual(told.numbers, {(((0, 2),), 0): 0, (((0, 1),), 0): -1, (((0, 3),), 0): -1})

    def test_a_task_that_ends(self):
        told = demand(plain_core(ALWAYS, Task([(("", ""), 2)], [])))
        self.assertEqual(told.numbers, {(((0, 2),), 0): 0, (((0, 1),), 0): -1, (((-1, 0),), 0): 0})

    def test_a_window_by_hand(self):
        core = plain_core(ALWAYS, Task.plain(1, 2, 2), Task.plain(2, 3, 8))
        self.assertIsNone(self.check(core))
        fuller = plain_core(ALWAYS, Task.plain(1, 2, 2), Task.plain(2, 3, 8), Task.plain(1, 4, 8))
        self.assertEqual(self.check(fuller), 4)
        self.assertEqual(demand(fuller).window, ((), (1, 1, 1, 1), [(0, 0, 0), (0, 1, 0), (0, 2, 0), (2, 0, 0)]))

    def test_a_window_has_a_lead(self):
        supply = Supply(3, [(0, 1, 1), (1, 1, 2), (2, 0, 0)])
        self.assertEqual(self.check(plain_core(supply, Task.plain(1, 1, 1))), 1)
        self.assertEqual(demand(plain_core(supply, Task.plain(1, 1, 1))).window, ((1, 1), (0,), [(0, 0, 0)]))

    def test_a_window_behind_many_shorter_ones(self):
        # 4 in each 7 and 4 in each 8 ticks are more than 1 in each tick, but that shows late.
        self.assertEqual(self.check(plain_core(ALWAYS, Task.plain(4, 7, 7), Task.plain(4, 8, 8))), 35)
        self.assertIsNone(self.check(plain_core(ALWAYS, Task.plain(4, 7, 7), Task.plain(3, 8, 8))))
        two = Task([(("", ""), 4), (("", "", ""), 4)], [(0, 0, 4), (0, 1, 4), (1, 1, 8)])
        self.assertEqual(self.check(plain_core(Supply.share(1, 2), two)), 4)

    def test_against_windows_counted_out(self):
        overfull = 0
        for seed in range(120):
            core = drawn_plain_core(seed)
            fewest = self.check(core)
            self.assertEqual(fewest_overfull(core, 9 if fewest is None else min(fewest, 9)),
                             fewest if fewest is None or fewest <= 9 else None, seed)
            overfull += fewest is not None
        self.assertTrue(30 < overfull < 100, overfull)

    def test_dues_hold_exactly_if_no_window_is_overfull(self):
        for seed in range(60):
            core = drawn_plain_core(seed, 1500)
            dues = [judge(core, Due(number), core.parties) for number in range(len(core.tasks))]
            self.assertEqual(bool(demand(core)), all(dues), seed)

    def test_the_total_load_is_at_most_the_least_mean(self):
        for seed in range(120):
            core = drawn_plain_core(seed)
            if demand(core):
                asked, ticks = total_load(core.tasks)
                least = rate(core.supply)
                self.assertLessEqual(asked * least.ticks, least.given * ticks)

    def test_what_is_returned_is_new(self):
        core = plain_core(ALWAYS, Task.plain(1, 2, 3))
        demand(core).numbers.clear()
        self.assertEqual(len(demand(core).numbers), 3)


class RoomTest(unittest.TestCase):
    def test_no_room(self):
        self.assertEqual(room(plain_core(ALWAYS, Task.plain(1, 1, 1)), 8, 8), 0)
        self.assertEqual(room(plain_core(Supply.share(0, 1)), 5, 5), 0)

    def test_no_room_in_a_core_that_is_overfull(self):
        self.assertEqual(room(plain_core(Supply.share(1, 2), Task.plain(2, 2, 2)), 8, 8), 0)

    def test_four_is_the_most(self):
        self.assertEqual(room(plain_core(ALWAYS), 8, 8), 4)
        self.assertEqual(room(plain_core(ALWAYS), 4, 4), 4)

    def test_the_due_is_the_most(self):
        self.assertEqual([room(plain_core(ALWAYS), due, 8) for due in (1, 2, 3)], [1, 2, 3])

    def test_some_room(self):
        core = plain_core(ALWAYS, Task.plain(1, 2, 2))
        self.assertEqual([room(core, due, 8) for due in range(1, 9)], [1, 1, 2, 2, 3, 3, 4, 4])
        self.assertEqual(room(core, 4, 4), 2)
        self.assertEqual(room(plain_core(Supply.share(1, 2)), 4, 8), 1)

    def test_not_plain_comes_first(self):
        with self.assertRaises(NotPlain):
            room(Core(ALWAYS, Task.plain(1, 1, 1), Task.plain(1, 1, 1), Task.plain(1, 1, 1)), 9, 1)

    def test_then_an_invalid_task(self):
        full = plain_core(ALWAYS, Task.plain(1, 1, 1), Task.plain(1, 1, 1), Task.plain(1, 1, 1))
        for due, gap in ((0, 4), (-1, 4), (9, 9), (4, 3), (4, 9), (1, 0)):
            with self.assertRaises(InvalidTask):
                room(full, due, gap)

    def test_then_an_invalid_core(self):
        wide = Supply(5000, [(state, 1, (state + 1) % 5000) for state in range(5000)])
        with self.assertRaises(TooLarge) as caught:
            room(plain_core(wide), 8, 8)
        self.assertEqual(caught.exception.bound, 100000)
        full = plain_core(ALWAYS, Task.plain(1, 1, 1), Task.plain(1, 1, 1), Task.plain(1, 1, 1))
        with self.assertRaises(InvalidCore):
            room(full, 8, 8)

    def test_a_plan_with_which_the_core_would_be_too_large(self):
        # With a task of due and gap 8, the weight is the size times 28, 37, 46 or 55.
        for size, told in ((1818, 4), (1819, 3), (2173, 3), (2174, 2), (2702, 2), (2703, 1), (3571, 1)):
            supply = Supply(size, [(state, 1, (state + 1) % size) for state in range(size)])
            self.assertEqual(room(plain_core(supply), 8, 8), told, size)
        supply = Supply(3572, [(state, 1, (state + 1) % 3572) for state in range(3572)])
        with self.assertRaises(TooLarge):
            room(plain_core(supply), 8, 8)

    def test_the_core_stays_as_it_was(self):
        core = plain_core(ALWAYS, Task.plain(1, 2, 2))
        room(core, 4, 4)
        self.assertEqual(len(core.tasks), 1)

    def test_against_least_given(self):
        for seed in range(40):
            core = drawn_plain_core(seed, 400)
            draw = random.Random(seed)
            due = draw.randint(1, 8)
            gap = draw.randint(due, 8)
            told = 0
            for length in range(1, min(due, 4) + 1):
                fuller = core.changed(tasks=core.tasks + (Task.plain(length, due, gap),))
                if all(asked_in(fuller, ticks) <= least_given(core.supply, ticks) for ticks in range(41)):
                    told = length
            self.assertEqual(room(core, due, gap), told, seed)


if __name__ == "__main__":
    unittest.main()

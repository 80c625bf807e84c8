"""Point 42."""

import unittest

from firstbreach.halls import Hall, Taking
from firstbreach.settling import Settled, serve, settle
from test_halls import drawn_hall, told_acts


def graph_of(hall):
    """A dict from the positions to which acts lead to the lists of their acts, by a second telling of the acts."""
    graph = {}
    waiting = [hall.start()]
    while waiting:
        position = waiting.pop()
        if position not in graph:
            graph[position] = told_acts(hall, position)
            waiting += [act[2] for act in graph[position]]
    return graph


def cost_of(act, task):
    """What an act adds, or None if it is none of those that count; task is None for wasted acts."""
    core, _, (queues, _), ran, wasted = act
    if task is None:
        return wasted
    if ran == task:
        return None
    return int(ran >= 0 and task in queues[core])


def greatest_numbers(graph, task):
    """The greatest sums of ways from each position, or None if they grow without end."""
    steps = {}
    for position, acts in graph.items():
        steps[position] = [(cost_of(act, task), act[2]) for act in acts if cost_of(act, task) is not None]
    numbers = {position: 0 for position in graph}
    for _ in range(len(graph) * 2 + 2):
        changed = False
        for position in graph:
            best = max([cost + numbers[goal] for cost, goal in steps[position]], default=0)
            if best > numbers[position]:
                numbers[position] = best
                changed = True
        if not changed:
            return numbers
        if max(numbers.values()) > len(graph):
            return None
    return None


class SettledCase(unittest.TestCase):
    def check(self, hall, task=None):
        """Holds what is told against a second telling; returns it."""
        told = settle(hall) if task is None else serve(hall, task)
        self.assertIsInstance(told, Settled)
        graph = graph_of(hall)
        numbers = greatest_numbers(graph, task)
        self.assertIs(bool(told), numbers is not None)
        if told:
            self.assertEqual(told.numbers, numbers)
            self.assertEqual((told.lead, told.loop), (None, None))
        else:
            self.assertIsNone(told.numbers)
            acts = hall.play(told.lead + told.loop)
            before = ([hall.start()] + [act[2] for act in acts])[len(told.lead)]
            self.assertEqual(acts[-1][2], before)
            costs = [cost_of(act, task) for act in acts[len(told.lead):]]
            self.assertNotIn(None, costs)
            self.assertGreater(sum(costs), 0)
            for pairs in (told.lead, told.loop):
                self.assertIs(type(pairs), list)
                self.assertTrue(all(type(pair) is tuple for pair in pairs))
        return told


class SettleTest(SettledCase):
    def test_halls_that_settle(self):
        for queues, taking in (
            ([[0, 1], []], Taking([2])),
            ([[0, 1, 2], []], Taking([2], "again")),
            ([[0, 1, 2, 3], [], []], Taking([2], "again")),
            ([[0, 1, 2], [], []], Taking([1])),
            ([[0, 1, 2, 3, 4], []], Taking([2], "half")),
            ([[0], []], Taking([0])),
            ([[], []], Taking([1])),
            ([[0, 1]], Taking([1])),
            ([[]], Taking([1])),
        ):
            self.assertTrue(self.check(Hall(queues, taking)), queues)

    def test_halls_that_do_not(self):
        for queues, taking in (
            ([[0, 1], []], Taking([0])),
            ([[0, 1], []], Taking([3])),
            ([[0, 1], [], []], Taking([1, 1])),
            ([[0, 1, 2], [], []], Taking([1, 1])),
            ([[0, 1], [2], []], Taking([1], "any")),
        ):
            self.assertFalse(self.check(Hall(queues, taking)), queues)

    def test_the_numbers(self):
        hall = Hall([[0, 1], []], Taking([2]))
        told = self.check(hall)
        self.assertEqual(told.numbers[hall.start()], 1)
        self.assertEqual(told.numbers[(((0, 1), ()), (-1, 0))], 0)
        self.assertEqual(told.numbers[(((1, 0), ()), (-1, -1))], 1)
        self.assertEqual(self.check(Hall([[]], Taking([1]))).numbers, {(((),), (-1,)): 0})

    def test_a_loop(self):
        told = settle(Hall([[0, 1], []], Taking([0])))
        self.assertEqual(told.loop, [(1, -1)])


class ServeTest(SettledCase):
    def test_loose_tasks_that_are_served(self):
        for queues, taking, task in (
            ([[0, 1], []], Taking([2]), 0),
            ([[0, 1], []], Taking([2]), 1),
            ([[0, 1, 2]], Taking([1]), 2),
            ([[0]], Taking([1]), 0),
            ([[0], [1]], Taking([1]), 1),
        ):
            self.assertTrue(self.check(Hall(queues, taking), task))

    def test_loose_tasks_that_are_not(self):
        # The last task of a queue is taken again and again before its turn comes.
        hall = Hall([[0, 1], [2]], Taking([1, 1, 1]))
        told = [bool(self.check(hall, task)) for task in range(3)]
        self.assertIn(False, told)

    def test_the_numbers(self):
        hall = Hall([[0, 1, 2]], Taking([1]))
        numbers = self.check(hall, 2).numbers
        self.assertEqual(numbers, {(((0, 1, 2),), (-1,)): 2, (((1, 2, 0),), (-1,)): 1, (((2, 0, 1),), (-1,)): 0})

    def test_an_idle_core_passes_nothing_over(self):
        hall = Hall([[0], []], Taking([0]))
        self.assertEqual(self.check(hall, 0).numbers, {hall.start(): 0})


class DrawnTest(SettledCase):
    def test_drawn_halls(self):
        told = set()
        for seed in range(400):
            hall = drawn_hall(seed)
            tasks = sum(len(queue) for queue in hall.queues)
            if len(graph_of(hall)) > 300:
                continue
            told.add(("settle", bool(self.check(hall)), len(hall.queues)))
            for task in range(tasks):
                told.add(("serve", bool(self.check(hall, task)), len(hall.queues)))
        expected = {(name, holds, count) for name in ("settle", "serve") for holds in (True, False) for count in (2, 3)}
        self.assertLessEqual(expected, told)

    def test_a_large_hall(self):
        hall = Hall([[0, 1, 2, 3, 4], [], []], Taking([1, 1, 1], "any"))
        told = settle(hall)
        acts = hall.play(told.lead + told.loop)
        self.assertEqual(acts[-1][2], ([hall.start()] + [act[2] for act in acts])[len(told.lead)])
        self.assertGreater(sum([act[4] for act in acts[len(told.lead):]]), 0)


if __name__ == "__main__":
    unittest.main()

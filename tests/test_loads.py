"""Point 27, and what point 2 says of loads."""

import itertools
import math
import random
import unittest
from fractions import Fraction

from firstbreach.loads import Load, load, total_load
from firstbreach.tasks import Task
from samples import drawn_task

TURNS = Task([(("",), 2), (("", "", ""), 4)], [(0, 1, 2), (1, 0, 4)])
LONELY = Task([(("", ""), 2)], [])
ONE_WAY = Task([(("",), 1), (("", ""), 3)], [(0, 1, 5)])


def greatest_load(task):
    """The greatest load of all rounds of up to four edges."""
    loads = [Fraction(0)]
    for count in range(1, 5):
        for edges in itertools.product(task.edges, repeat=count):
            if all(edge[1] == after[0] for edge, after in zip(edges, edges[1:] + edges[:1])):
                asked = sum(len(task.nodes[u][0]) for u, _, _ in edges)
                loads.append(Fraction(asked, sum(gap for _, _, gap in edges)))
    return max(loads)


class LoadCase(unittest.TestCase):
    def check(self, task):
        told = load(task)
        self.assertIsInstance(told, Load)
        self.assertEqual(math.gcd(told.asked, told.ticks), 1)
        self.assertIsInstance(told.nodes, list)
        self.assertIsInstance(told.numbers, tuple)
        self.assertEqual(len(told.numbers), len(task.nodes))
        for u, v, gap in task.edges:
            length = len(task.nodes[u][0])
            self.assertGreaterEqual(told.numbers[v], told.numbers[u] + told.ticks * length - told.asked * gap)
        if told.nodes:
            gaps = {(u, v): gap for u, v, gap in task.edges}
            edges = list(zip(told.nodes, told.nodes[1:] + told.nodes[:1]))
            asked = sum(len(task.nodes[node][0]) for node in told.nodes)
            self.assertEqual(Fraction(asked, sum(gaps[edge] for edge in edges)), Fraction(told.asked, told.ticks))
        return (told.asked, told.ticks, told.nodes)


class LoadTest(LoadCase):
    def test_a_task_without_a_round(self):
        self.assertEqual(self.check(LONELY), (0, 1, []))
        self.assertEqual(self.check(ONE_WAY), (0, 1, []))

    def test_a_round_of_one_node(self):
        self.assertEqual(self.check(Task.plain(3, 4, 7)), (3, 7, [0]))
        self.assertEqual(self.check(Task.serving(1, 1)), (1, 1, [0]))
        self.assertEqual(self.check(Task([(("",), 1), (("", ""), 3)], [(0, 1, 1), (1, 1, 5)])), (2, 5, [1]))

    def test_a_round_of_two_nodes(self):
        asked, ticks, nodes = self.check(TURNS)
        self.assertEqual((asked, ticks, sorted(nodes)), (2, 3, [0, 1]))

    def test_the_greater_of_several_rounds(self):
        nodes = [(("",), 1), (("", "", ""), 3)]
        slow = Task(nodes, [(0, 0, 8), (0, 1, 4), (1, 0, 4), (1, 1, 7)])
        self.assertEqual(self.check(slow)[:2], (1, 2))
        own = Task(nodes, [(0, 0, 1), (0, 1, 4), (1, 0, 4)])
        self.assertEqual(self.check(own), (1, 1, [0]))
        other = Task(nodes, [(0, 0, 8), (0, 1, 4), (1, 0, 4), (1, 1, 3)])
        self.assertEqual(self.check(other), (1, 1, [1]))

    def test_equal_loads(self):
        nodes = [(("",), 2), (("", ""), 4)]
        task = Task(nodes, [(0, 0, 2), (0, 1, 2), (1, 0, 4), (1, 1, 4)])
        self.assertEqual(self.check(task)[:2], (1, 2))

    def test_lowest_terms(self):
        self.assertEqual(self.check(Task.plain(2, 4, 8))[:2], (1, 4))
        self.assertEqual(self.check(Task.plain(4, 4, 6))[:2], (2, 3))
        self.assertEqual(self.check(Task.plain(4, 4, 4))[:2], (1, 1))

    def test_against_all_rounds(self):
        for seed in range(150):
            task = drawn_task(random.Random(seed))
            asked, ticks, nodes = self.check(task)
            self.assertEqual(Fraction(asked, ticks), greatest_load(task), seed)
            self.assertEqual(nodes == [], asked == 0)

    def test_what_is_returned_is_new(self):
        load(TURNS).nodes.append(9)
        self.assertEqual(len(load(TURNS).nodes), 2)


class TotalLoadTest(LoadCase):
    def test_no_tasks(self):
        self.assertEqual(total_load([]), (0, 1))
        self.assertEqual(total_load(()), (0, 1))

    def test_one_task(self):
        self.assertEqual(total_load([Task.plain(2, 4, 8)]), (1, 4))
        self.assertEqual(total_load([LONELY]), (0, 1))

    def test_a_task_twice_counts_twice(self):
        task = Task.plain(1, 3, 3)
        self.assertEqual(total_load([task, task]), (2, 3))
        self.assertEqual(total_load((task, task, task)), (1, 1))

    def test_several_tasks_in_lowest_terms(self):
        self.assertEqual(total_load([Task.plain(1, 2, 2), Task.plain(1, 6, 6)]), (2, 3))
        self.assertEqual(total_load((Task.plain(1, 2, 2), LONELY, Task.plain(1, 3, 3))), (5, 6))
        self.assertEqual(total_load([Task.plain(1, 1, 1), TURNS]), (5, 3))

    def test_against_the_sum(self):
        for seed in range(60):
            draw = random.Random(seed)
            tasks = [drawn_task(draw) for _ in range(draw.randint(0, 4))]
            total = sum([greatest_load(task) for task in tasks], Fraction(0))
            self.assertEqual(total_load(tasks), (total.numerator, total.denominator))


if __name__ == "__main__":
    unittest.main()

"""Point 26, and what point 2 says of arrivals."""

import inspect
import itertools
import random
import unittest

from firstbreach.arrivals import asking, coming, first_bad, most_asked
from firstbreach.tasks import Task
from samples import drawn_task

# A long job may follow a short one after 2 ticks, a short one a long one after 4; nothing else.
TURNS = Task([(("",), 2), (("", "", ""), 4)], [(0, 1, 2), (1, 0, 4)])
ENDING = Task([(("",), 1), (("", ""), 3)], [(0, 1, 1), (0, 0, 2)])
STEADY = Task([(("", ""), 3)], [(0, 0, 5)], steady=True)
PLAIN = Task.plain(2, 3, 4)


def is_told(task, arrivals):
    """Whether each pair is allowed after those before it, told once more."""
    for index, (moment, node) in enumerate(arrivals):
        if moment < 0 or node not in range(len(task.nodes)):
            return False
        if task.steady:
            if moment != index * task.edges[0][2]:
                return False
        elif index > 0:
            gaps = [gap for u, v, gap in task.edges if (u, v) == (arrivals[index - 1][1], node)]
            if not gaps or moment - arrivals[index - 1][0] < gaps[0]:
                return False
    return True


def all_arrivals(task, ticks):
    """All lists of arrivals with moments below ticks; of a steady task all its beginnings."""
    pairs = list(itertools.product(range(ticks), range(len(task.nodes))))
    found = [[]]
    for arrivals in found:
        found += [arrivals + [pair] for pair in pairs if is_told(task, arrivals + [pair])]
    return found


def asked(task, arrivals):
    return sum(len(task.nodes[node][0]) for _, node in arrivals)


def is_due_by(task, arrivals, ticks):
    return all(moment + task.nodes[node][1] <= ticks for moment, node in arrivals)


class FirstBadTest(unittest.TestCase):
    def test_no_arrivals(self):
        self.assertIsNone(first_bad(PLAIN, []))
        self.assertIsNone(first_bad(STEADY, ()))

    def test_a_job_just_in_time_and_one_too_early(self):
        self.assertIsNone(first_bad(PLAIN, [(3, 0), (7, 0), (20, 0)]))
        self.assertEqual(first_bad(PLAIN, [(3, 0), (6, 0)]), 1)
        self.assertEqual(first_bad(PLAIN, ((0, 0), (4, 0), (7, 0), (-1, 9))), 2)

    def test_an_unknown_node(self):
        self.assertEqual(first_bad(PLAIN, [(0, 1)]), 0)
        self.assertEqual(first_bad(PLAIN, [(0, -1)]), 0)
        self.assertEqual(first_bad(TURNS, [(0, 0), (2, 1), (9, -1)]), 2)
        self.assertEqual(first_bad(TURNS, [(0, 2)]), 0)
        self.assertEqual(first_bad(STEADY, [(0, 1)]), 0)
        self.assertEqual(first_bad(STEADY, [(0, -1)]), 0)

    def test_a_moment_below_0(self):
        self.assertEqual(first_bad(PLAIN, [(-1, 0)]), 0)
        self.assertEqual(first_bad(PLAIN, [(-9, 0), (0, 0)]), 0)
        self.assertEqual(first_bad(STEADY, [(-5, 0)]), 0)
        self.assertEqual(first_bad(PLAIN, [(5, 0), (-1, 0)]), 1)

    def test_each_edge_has_its_own_gap(self):
        self.assertIsNone(first_bad(TURNS, [(1, 1), (5, 0), (7, 1)]))
        self.assertEqual(first_bad(TURNS, [(1, 1), (3, 0)]), 1)
        self.assertEqual(first_bad(TURNS, [(1, 0), (9, 0)]), 1)

    def test_a_task_with_no_edge_from_a_node(self):
        self.assertIsNone(first_bad(ENDING, [(0, 0), (1, 1)]))
        self.assertEqual(first_bad(ENDING, [(0, 0), (1, 1), (99, 0)]), 2)
        self.assertEqual(first_bad(ENDING, [(0, 1), (99, 1)]), 1)

    def test_a_steady_task(self):
        self.assertIsNone(first_bad(STEADY, [(0, 0), (5, 0), (10, 0)]))
        self.assertEqual(first_bad(STEADY, [(1, 0)]), 0)
        self.assertEqual(first_bad(STEADY, [(5, 0)]), 0)
        self.assertEqual(first_bad(STEADY, [(0, 0), (6, 0)]), 1)
        self.assertEqual(first_bad(STEADY, [(0, 0), (5, 0), (9, 0)]), 2)

    def test_the_arrivals_stay_as_they_were(self):
        arrivals = [(0, 0), (1, 0)]
        first_bad(PLAIN, arrivals)
        self.assertEqual(arrivals, [(0, 0), (1, 0)])

    def test_against_the_rules_told_once_more(self):
        draw = random.Random(1)
        for seed in range(60):
            task = drawn_task(random.Random(seed))
            for _ in range(40):
                moments = sorted(draw.randint(-1, 14) for _ in range(draw.randint(0, 4)))
                arrivals = [(moment, draw.choice((0, 0, 0, 1, 1, 2, -1))) for moment in moments]
                bad = [k for k in range(len(arrivals)) if not is_told(task, arrivals[:k + 1])]
                self.assertEqual(first_bad(task, arrivals), bad[0] if bad else None)


class ComingTest(unittest.TestCase):
    def test_it_is_a_generator(self):
        self.assertTrue(inspect.isgeneratorfunction(coming))

    def test_no_ticks(self):
        self.assertEqual(list(coming(TURNS, 0)), [[]])
        self.assertEqual(list(coming(STEADY, 0)), [[]])

    def test_a_few_ticks_ascending(self):
        self.assertEqual(
            list(coming(Task.plain(1, 1, 2), 3)),
            [[], [(0, 0)], [(0, 0), (2, 0)], [(1, 0)], [(2, 0)]],
        )
        self.assertEqual(
            list(coming(ENDING, 2)),
            [[], [(0, 0)], [(0, 0), (1, 1)], [(0, 1)], [(1, 0)], [(1, 1)]],
        )

    def test_a_steady_task_has_one_list(self):
        self.assertEqual(list(coming(STEADY, 1)), [[(0, 0)]])
        self.assertEqual(list(coming(STEADY, 5)), [[(0, 0)]])
        self.assertEqual(list(coming(STEADY, 6)), [[(0, 0), (5, 0)]])
        self.assertEqual(list(coming(Task.serving(1, 1), 8)), [[(moment, 0) for moment in range(8)]])

    def test_eight_ticks_of_the_busiest_task(self):
        busiest = Task([(("",), 1), (("",), 1)], [(u, v, 1) for u in (0, 1) for v in (0, 1)])
        found = list(coming(busiest, 8))
        self.assertEqual(len(found), 3 ** 8)
        self.assertEqual(found, sorted(found))

    def test_against_the_rules_told_once_more(self):
        for seed in range(40):
            task = drawn_task(random.Random(seed))
            for ticks in (0, 1, 2, 3, 5, 8):
                found = list(coming(task, ticks))
                told = sorted(all_arrivals(task, ticks))
                self.assertEqual(found, [max(told, key=len)] if task.steady else told)

    def test_each_list_is_new(self):
        for arrivals in coming(PLAIN, 3):
            arrivals.append((9, 9))
        self.assertEqual([len(arrivals) for arrivals in coming(PLAIN, 3)], [0, 1, 1, 1])


class AskingTest(unittest.TestCase):
    def check(self, task, ticks):
        arrivals = asking(task, ticks)
        self.assertTrue(is_told(task, arrivals), (arrivals, ticks))
        self.assertTrue(is_due_by(task, arrivals, ticks), (arrivals, ticks))
        self.assertEqual(asked(task, arrivals), most_asked(task, ticks))
        return most_asked(task, ticks)

    def test_no_ticks(self):
        for task in (PLAIN, TURNS, ENDING, STEADY):
            self.assertEqual(self.check(task, 0), 0)
            self.assertEqual(asking(task, 0), [])

    def test_a_job_counts_only_once_it_is_due(self):
        self.assertEqual([self.check(PLAIN, ticks) for ticks in range(12)], [0, 0, 0, 2, 2, 2, 2, 4, 4, 4, 4, 6])

    def test_a_steady_task(self):
        self.assertEqual([self.check(STEADY, ticks) for ticks in (2, 3, 7, 8, 12, 13)], [0, 2, 2, 4, 4, 6])
        self.assertEqual(asking(STEADY, 9), [(0, 0), (5, 0)])

    def test_the_better_of_two_first_jobs(self):
        self.assertEqual([self.check(TURNS, ticks) for ticks in range(11)], [0, 0, 1, 1, 3, 3, 4, 4, 5, 5, 7])
        self.assertEqual(asking(TURNS, 10), [(0, 1), (4, 0), (6, 1)])

    def test_a_task_that_ends(self):
        self.assertEqual([self.check(ENDING, ticks) for ticks in range(7)], [0, 1, 1, 2, 3, 3, 4])
        ending_or_not = Task([(("", ""), 2), (("",), 1)], [(0, 0, 3)])
        self.assertEqual([self.check(ending_or_not, ticks) for ticks in (1, 2, 3, 4, 5)], [1, 2, 2, 2, 4])
        lonely = Task([(("", ""), 2)], [])
        self.assertEqual([self.check(lonely, ticks) for ticks in (1, 2, 40)], [0, 2, 2])

    def test_forty_ticks(self):
        self.assertEqual(self.check(Task.plain(1, 1, 1), 40), 40)
        self.assertEqual(self.check(Task.plain(4, 8, 8), 40), 20)
        self.assertEqual(self.check(Task.serving(3, 7), 40), 15)
        self.assertEqual(self.check(TURNS, 40), 7 * 3 + 6)

    def test_against_all_arrivals(self):
        for seed in range(40):
            task = drawn_task(random.Random(seed))
            for ticks in range(10):
                told = max(asked(task, one) for one in all_arrivals(task, ticks) if is_due_by(task, one, ticks))
                self.assertEqual(self.check(task, ticks), told, (seed, ticks))

    def test_somewhat_beyond_the_limits(self):
        self.assertEqual(self.check(PLAIN, -1), 0)
        self.assertEqual(self.check(Task.plain(1, 1, 1), 50), 50)
        self.assertEqual(list(coming(PLAIN, -1)), [[]])


if __name__ == "__main__":
    unittest.main()

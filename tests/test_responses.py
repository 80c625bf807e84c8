"""Point 32, the sentence on Due(i, late=n), and what point 2 says of responses."""

import unittest

import model
from firstbreach.choices import Choice
from firstbreach.cores import Core
from firstbreach.judging import judge
from firstbreach.promises import Due, first_mark
from firstbreach.errors import InvalidPromise
from firstbreach.responses import busy, lateness, response
from firstbreach.supplies import Supply
from firstbreach.tasks import Task
from samples import drawn_core, graph_of, keeps_books

ALWAYS = Supply.always()
NEVER = Supply.share(0, 1)
STUCK = Supply(1, [(0, 0, 0)])


def finished_jobs(core, number, graph):
    """The pairs (node, response) of all jobs that rows of the graph finish, and the nodes stuck at their caps."""
    task = core.tasks[number]
    finished, stuck = set(), set()
    for standing, moves in graph.items():
        node, age, _, _ = status = standing[1][number]
        if model.unfinished(task, status) and age == model.cap(task, node):
            stuck.add(node)
        for row, after in moves:
            arrived = model.arrivals(core, standing[1], row[1])[number]
            if model.unfinished(task, arrived) and not model.unfinished(task, after[1][number]):
                finished.add((arrived[0], arrived[1] + 1))
    return finished, stuck


def rows_to_stuck(core, number, node, graph):
    """The number of rows of a shortest run to a standing in which a job of the node is unfinished at its cap."""
    task = core.tasks[number]
    front, seen, rows = [core.start()], {core.start()}, 0
    while front:
        for standing in front:
            status = standing[1][number]
            if status[0] == node and model.unfinished(task, status) and status[1] == model.cap(task, node):
                return rows
        later = {after for standing in front for _, after in graph[standing]} - seen
        seen |= later
        front, rows = sorted(later), rows + 1
    return None


class ResponseCase(unittest.TestCase):
    def check(self, core, number, node):
        graph = graph_of(core, core.parties)
        finished, stuck = finished_jobs(core, number, graph)
        pair = response(core, number, node)
        self.assertIs(type(pair), tuple)
        ticks, run = pair
        self.assertIs(type(run), list)
        self.assertTrue(keeps_books(core, run, core.parties))
        standings = [core.start()] + core.play(run)
        if node in stuck:
            self.assertIsNone(ticks)
            self.assertEqual(len(run), rows_to_stuck(core, number, node, graph))
            last = standings[-1][1][number]
            self.assertTrue(core.tasks[number].unfinished(last))
            self.assertEqual(last[:2], (node, core.tasks[number].cap(node)))
        else:
            self.assertEqual(ticks, max(response for one, response in finished if one == node))
            arrived = core.arrived(standings[-2], run[-1][1])[number]
            self.assertTrue(core.tasks[number].unfinished(arrived))
            self.assertFalse(core.tasks[number].unfinished(standings[-1][1][number]))
            self.assertEqual(arrived[:2], (node, ticks - 1))
        return ticks


class ResponseTest(ResponseCase):
    def test_one_task(self):
        self.assertEqual(self.check(Core(ALWAYS, Task.plain(1, 1, 1)), 0, 0), 1)
        self.assertEqual(self.check(Core(ALWAYS, Task.plain(3, 8, 8)), 0, 0), 3)
        self.assertEqual(response(Core(ALWAYS, Task.plain(1, 1, 1)), 0, 0), (1, [(1, (0,), 0, 0)]))

    def test_a_response_equal_to_the_due_and_above_it(self):
        core = Core(ALWAYS, Task.plain(2, 2, 8), Task.plain(1, 3, 8), Task.plain(1, 3, 8))
        self.assertEqual([self.check(core, number, 0) for number in range(3)], [2, 3, 4])

    def test_a_job_that_can_be_unfinished_at_its_cap(self):
        core = Core(ALWAYS, Task.plain(2, 2, 4), Task.plain(1, 1, 2))
        self.assertIsNone(self.check(core, 1, 0))
        self.assertEqual(self.check(core, 0, 0), 2)
        ticks, run = response(core, 1, 0)
        self.assertEqual((ticks, len(run)), (None, 2))
        self.assertEqual(self.check(Core(Supply.share(1, 2), Task.plain(1, 3, 3)), 0, 0), 3)

    def test_a_job_that_never_runs(self):
        self.assertIsNone(self.check(Core(STUCK, Task.plain(1, 1, 3)), 0, 0))
        self.assertEqual(len(response(Core(STUCK, Task.plain(1, 1, 3)), 0, 0)[1]), 3)
        self.assertIsNone(self.check(Core(NEVER, Task.plain(1, 1, 3)), 0, 0))

    def test_a_response_equal_to_the_cap(self):
        core = Core(ALWAYS, Task.plain(2, 2, 8), Task.plain(1, 1, 3))
        self.assertEqual(self.check(core, 1, 0), 3)

    def test_a_task_of_two_nodes(self):
        two = Task([(("",), 1), (("", "", ""), 4)], [(0, 1, 8), (1, 0, 8)])
        core = Core(ALWAYS, Task.plain(1, 1, 8), two)
        self.assertEqual([self.check(core, 1, node) for node in (0, 1)], [2, 4])
        tight = Core(ALWAYS, Task.plain(1, 1, 8), Task([(("",), 1), (("", "", ""), 4)], [(0, 1, 1), (1, 0, 8)]))
        self.assertEqual([self.check(tight, 1, node) for node in (0, 1)], [None, 4])

    def test_a_steady_task(self):
        core = Core(Supply.share(1, 2), Task.serving(1, 2), Task([(("",), 3)], [(0, 0, 4)], steady=True))
        self.assertEqual(self.check(core, 0, 0), 2)
        self.assertIsNone(self.check(core, 1, 0))

    def test_needs_are_kept_under_each_guard(self):
        for guard in ("cut", "after", "trust"):
            core = Core(ALWAYS, Task.plain(2, 4, 4), Task.plain(1, 4, 4), guard=guard, door="open")
            self.assertEqual([self.check(core, number, 0) for number in (0, 1)], [2, 3])

    def test_against_all_options(self):
        told = []
        for seed in range(150):
            core = drawn_core(seed, most_weight=2000)
            for number, task in enumerate(core.tasks):
                told += [self.check(core, number, node) for node in range(len(task.nodes))]
        self.assertGreater(told.count(None), 30)
        self.assertGreater(len(told) - told.count(None), 30)


class LatenessTest(unittest.TestCase):
    def test_a_lateness_of_0(self):
        core = Core(ALWAYS, Task.plain(2, 2, 8), Task.plain(1, 3, 8), Task.plain(1, 3, 8))
        self.assertEqual([lateness(core, number) for number in range(3)], [0, 0, 1])
        self.assertEqual(lateness(Core(ALWAYS, Task.plain(1, 8, 8)), 0), 0)

    def test_the_greatest_of_both_nodes(self):
        two = Task([(("",), 1), (("", "", ""), 3)], [(0, 1, 8), (1, 0, 8)])
        self.assertEqual(lateness(Core(ALWAYS, Task.plain(2, 2, 8), two), 1), 2)
        easy = Task([(("",), 1), (("", "", ""), 8)], [(0, 1, 8), (1, 0, 8)])
        self.assertEqual(lateness(Core(ALWAYS, Task.plain(2, 2, 8), easy), 1), 2)
        other = Task([(("",), 8), (("", "", ""), 4)], [(0, 1, 8), (1, 0, 8)])
        self.assertEqual(lateness(Core(ALWAYS, Task.plain(2, 2, 8), other), 1), 1)

    def test_one_node_can_be_unfinished_at_its_cap(self):
        for first, second in ((1, 8), (8, 1)):
            two = Task([(("",), 1), (("",), 1)], [(0, 1, first), (1, 0, second)])
            self.assertIsNone(lateness(Core(ALWAYS, Task.plain(1, 1, 8), two), 1))

    def test_due_holds_exactly_up_to_the_lateness(self):
        finite = 0
        for seed in range(120):
            core = drawn_core(seed, most_weight=2000)
            for number in range(len(core.tasks)):
                late = lateness(core, number)
                for n in range(9):
                    try:
                        first_mark(core, Due(number, late=n))
                    except InvalidPromise:
                        break
                    holds = judge(core, Due(number, late=n), core.parties).holds
                    self.assertEqual(holds, late is not None and late <= n, (seed, number, n))
                    finite += late is not None and late > 0
        self.assertGreater(finite, 5)


def busy_ways(core, graph):
    """The greatest number of standings on end with an unfinished job; None if there is no greatest one."""
    working = {
        standing for standing in graph
        if any(model.unfinished(task, status) for task, status in zip(core.tasks, standing[1]))
    }
    lengths = {standing: 1 for standing in working}
    for _ in range(len(working) + 1):
        longer = {
            standing: 1 + max([lengths[after] for _, after in graph[standing] if after in working], default=0)
            for standing in working
        }
        if longer == lengths:
            return max(lengths.values(), default=0)
        lengths = longer
    return None


class BusyTest(unittest.TestCase):
    def check(self, core):
        pair = busy(core)
        self.assertIs(type(pair), tuple)
        count, loops = pair
        self.assertEqual(count, busy_ways(core, graph_of(core, core.parties)))
        if count is not None:
            self.assertIsNone(loops)
            return count
        self.assertIs(type(loops), tuple)
        lead, loop = loops
        self.assertIs(type(lead), list)
        self.assertIs(type(loop), list)
        self.assertGreater(len(loop), 0)
        self.assertTrue(keeps_books(core, lead + loop, core.parties))
        standings = [core.start()] + core.play(lead + loop)
        self.assertEqual(standings[len(lead)], standings[-1])
        for standing in standings[len(lead) + 1:]:
            self.assertTrue(any(task.unfinished(status) for task, status in zip(core.tasks, standing[1])))
        return None

    def test_a_greatest_number_of_0(self):
        self.assertEqual(busy(Core(ALWAYS)), (0, None))
        self.assertEqual(busy(Core(STUCK)), (0, None))
        self.assertEqual(busy(Core(ALWAYS, Task.plain(1, 1, 1))), (0, None))
        self.assertEqual(busy(Core(ALWAYS, Task.serving(1, 1))), (0, None))

    def test_a_greatest_number(self):
        self.assertEqual(self.check(Core(ALWAYS, Task.plain(3, 3, 3))), 2)
        self.assertEqual(self.check(Core(ALWAYS, Task.plain(1, 8, 8), Task.plain(1, 8, 8))), 1)
        self.assertEqual(self.check(Core(ALWAYS, Task.plain(2, 8, 8), Task.plain(2, 8, 8), Task([(("",), 1)], []))), 4)
        self.assertEqual(self.check(Core(Supply.share(1, 3), Task.plain(1, 5, 5))), 4)

    def test_no_greatest_number(self):
        self.assertIsNone(self.check(Core(STUCK, Task.plain(1, 1, 3))))
        self.assertIsNone(self.check(Core(ALWAYS, Task.plain(1, 1, 1), Task.plain(1, 1, 1))))
        self.assertIsNone(self.check(Core(Supply.share(0, 1), Task.plain(1, 1, 1))))

    def test_the_loop_begins_behind_a_lead(self):
        supply = Supply(3, [(0, 1, 1), (1, 1, 2), (2, 0, 2)])
        core = Core(supply, Task.plain(2, 2, 2))
        self.assertIsNone(self.check(core))
        self.assertGreater(len(busy(core)[1][0]), 2)

    def test_a_loop_beside_rows_that_lead_to_an_end(self):
        # A tick that is kept back in state 0 leads to where every tick is given, and the jobs do not pile up.
        supply = Supply(3, [(0, 0, 1), (0, 1, 2), (1, 1, 1), (2, 0, 0)])
        self.assertIsNone(self.check(Core(supply, Task.plain(1, 2, 2), Task.plain(1, 2, 2))))

    def test_against_all_options(self):
        told = [self.check(drawn_core(seed, most_weight=1200)) for seed in range(150)]
        self.assertGreater(told.count(None), 20)
        self.assertGreater(len([count for count in told if count]), 20)


if __name__ == "__main__":
    unittest.main()

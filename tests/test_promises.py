"""Point 22, and what point 2 says of promises."""

import itertools
import random
import unittest

import model
from firstbreach.choices import Choice
from firstbreach.cores import Core
from firstbreach.errors import InvalidPromise
from firstbreach.judging import breaks_at
from firstbreach.promises import Due, Fed, Free, Promise, Spare, first_mark, in_ring, next_mark
from firstbreach.supplies import Supply
from firstbreach.tasks import NONE, Task
from samples import CROSSED, drawn_core

FREE = Supply.share(0, 1)


def marks(core, promise, rows):
    """The marks after each of the rows."""
    standing = core.start()
    mark = first_mark(core, promise)
    found = []
    for row in rows:
        after = core.after(standing, row)
        mark = next_mark(core, promise, mark, standing, row, after)
        found.append(mark)
        standing = after
    return found


class ClassesTest(unittest.TestCase):
    def test_each_class_is_directly_under_promise(self):
        for one in (Due, Spare, Fed, Free):
            self.assertEqual(one.__bases__, (Promise,))

    def test_attributes(self):
        self.assertEqual((Due(2).task, Due(2).late), (2, 0))
        self.assertEqual((Due(1, late=3).task, Due(1, late=3).late), (1, 3))
        self.assertEqual((Spare(2, 5).given, Spare(2, 5).period), (2, 5))
        self.assertEqual(Fed(1).task, 1)
        self.assertIsInstance(Free(), Promise)


class FitsTest(unittest.TestCase):
    def assert_invalid(self, core, promise):
        with self.assertRaises(InvalidPromise):
            first_mark(core, promise)

    def test_due(self):
        core = Core(FREE, Task.plain(1, 2, 5), Task([(("",), 3), (("",), 4)], [(0, 0, 8), (1, 0, 6)]))
        for late in range(4):
            self.assertEqual(first_mark(core, Due(0, late=late)), 0)
        self.assert_invalid(core, Due(0, late=4))
        self.assert_invalid(core, Due(0, late=-1))
        self.assertEqual(first_mark(core, Due(1, late=2)), 0)
        self.assert_invalid(core, Due(1, late=3))
        self.assert_invalid(core, Due(2))
        self.assert_invalid(core, Due(-1))
        self.assert_invalid(Core(FREE), Due(0))

    def test_due_of_each_node(self):
        core = Core(FREE, Task([(("",), 4), (("",), 3)], [(0, 1, 6), (1, 0, 8)]))
        self.assertEqual(first_mark(core, Due(0, late=2)), 0)
        self.assert_invalid(core, Due(0, late=3))
        core = Core(FREE, Task([(("",), 4), (("",), 3)], [(0, 1, 8)]))
        self.assertEqual(first_mark(core, Due(0)), 0)
        self.assert_invalid(core, Due(0, late=1))

    def test_spare(self):
        core = Core(FREE)
        for given, period in ((0, 1), (1, 1), (0, 8), (8, 8), (3, 5)):
            self.assertEqual(first_mark(core, Spare(given, period)), 0)
        for given, period in ((0, 0), (1, 0), (0, 9), (9, 9), (-1, 4), (5, 4), (9, 8), (0, -1)):
            self.assert_invalid(core, Spare(given, period))

    def test_fed(self):
        core = Core(FREE, Task.serving(1, 3), Task.plain(1, 3, 3), Task([(("",), 2)], [(0, 0, 3)], steady=True))
        self.assertEqual(first_mark(core, Fed(0)), 0)
        for task in (1, 2, 3, -1):
            self.assert_invalid(core, Fed(task))

    def test_free_fits_every_core(self):
        self.assertEqual(first_mark(Core(FREE), Free()), 0)
        self.assertEqual(first_mark(Core(FREE, Task.plain(1, 2, 3)), Free()), 0)


class DueTest(unittest.TestCase):
    CORE = Core(FREE, Task.plain(1, 2, 5), Task.plain(1, 8, 8))

    def test_the_row_that_breaks_it(self):
        rows = [(1, (0, 0), 1, 0), (0, (-1, -1), -1, 0), (0, (-1, -1), -1, 0), (1, (-1, -1), 0, 0), (0, (-1, -1), -1, 0)]
        self.assertEqual(marks(self.CORE, Due(0), rows), [0, -1, -1, 0, 0])
        self.assertEqual(marks(self.CORE, Due(0, late=1), rows), [0, 0, -1, 0, 0])
        self.assertEqual(marks(self.CORE, Due(0, late=2), rows), [0, 0, 0, 0, 0])
        self.assertEqual(marks(self.CORE, Due(1), rows), [0, 0, 0, 0, 0])

    def test_a_job_that_ends_in_its_last_tick_is_not_late(self):
        rows = [(0, (0, -1), -1, 0), (1, (-1, -1), 0, 0), (0, (-1, -1), -1, 0)]
        self.assertEqual(marks(self.CORE, Due(0), rows), [0, 0, 0])

    def test_a_job_that_asks_for_more_is_unfinished(self):
        core = self.CORE.changed(guard="trust")
        rows = [(0, (0, -1), -1, 0), (1, (-1, -1), 0, 1), (1, (-1, -1), 0, 0)]
        self.assertEqual(marks(core, Due(0), rows), [0, -1, 0])
        self.assertEqual(marks(self.CORE, Due(0), rows[:2]), [0, 0])

    def test_each_node_has_its_due(self):
        core = Core(FREE, Task([(("",), 1), (("",), 3)], [(0, 0, 4), (1, 1, 4)]))
        rows = [(0, (1,), -1, 0), (0, (-1,), -1, 0), (0, (-1,), -1, 0)]
        self.assertEqual(marks(core, Due(0), rows), [0, 0, -1])
        self.assertEqual(marks(core, Due(0), [(0, (0,), -1, 0)]), [-1])

    def test_it_checks_nothing_and_forgets(self):
        standing = ((0,), (NONE, NONE))
        self.assertEqual(next_mark(self.CORE, Due(0), -1, standing, (1, (-1, -1), -1, 0), standing), 0)
        late = ((0,), ((0, 2, 0, 0), NONE))
        self.assertEqual(next_mark(self.CORE, Due(0), 0, standing, (1, (-1, -1), 1, 1), late), -1)


class SpareTest(unittest.TestCase):
    CORE = Core(FREE, Task.plain(1, 8, 8))

    def test_the_marks_are_states_of_the_share(self):
        # The states of the share of 2 in 4: 0 (0,0), 1 (1,0), 2 (1,1), 3 (2,0), 4 (2,1), 5 (2,2), 6 (3,1), 7 (3,2).
        left, kept, runs = (1, (-1,), -1, 0), (0, (-1,), -1, 0), (1, (0,), 0, 0)
        self.assertEqual(marks(self.CORE, Spare(2, 4), [left, left, left, left, kept]), [2, 5, 7, 0, 1])
        self.assertEqual(marks(self.CORE, Spare(2, 4), [kept, runs, left, left]), [1, 3, 6, 0])
        self.assertEqual(marks(self.CORE, Spare(2, 4), [kept, runs, left, kept, left]), [1, 3, 6, -1, -1])
        self.assertEqual(marks(self.CORE, Spare(1, 1), [left, runs, left]), [0, -1, -1])
        self.assertEqual(marks(self.CORE, Spare(0, 2), [kept, runs, left]), [1, 0, 1])

    def test_a_mark_of_minus_1_stays(self):
        standing = self.CORE.start()
        for bit in (0, 1):
            self.assertEqual(next_mark(self.CORE, Spare(0, 1), -1, standing, (bit, (-1,), -1, 0), standing), -1)


class FedTest(unittest.TestCase):
    CORE = Core(FREE, Task.plain(1, 8, 8), Task.serving(2, 4))

    def test_the_ticks_in_which_the_server_runs(self):
        other, feed, idle = (1, (0, 0), 0, 0), (1, (-1, 0), 1, 0), (1, (-1, -1), -1, 0)
        none = (0, (-1, -1), -1, 0)
        self.assertEqual(marks(self.CORE, Fed(1), [other, none, (1, (-1, -1), 1, 0), (1, (-1, -1), 1, 0)]), [1, 3, 6, 0])
        self.assertEqual(marks(self.CORE, Fed(1), [feed, idle, idle, (1, (-1, -1), 1, 0)]), [2, 4, 6, 0])
        self.assertEqual(marks(self.CORE, Fed(1), [feed, idle, idle, idle, feed]), [2, 4, 6, -1, -1])
        self.assertEqual(marks(self.CORE, Fed(1), [other, none, none]), [1, 3, -1])

    def test_a_mark_of_minus_1_stays(self):
        standing = self.CORE.start()
        self.assertEqual(next_mark(self.CORE, Fed(1), -1, standing, (1, (-1, 0), 1, 0), standing), -1)


def ring_core(*more, **kinds):
    return Core(FREE, Task([(("a", "ab"), 5)], []), Task([(("b", "ab"), 5)], []), *more, **kinds)


class FreeTest(unittest.TestCase):
    def test_a_ring_of_two(self):
        core = ring_core()
        rows = [(1, (0, 0), 0, 0), (1, (-1, -1), 1, 0), (1, (-1, -1), -1, 0)]
        self.assertEqual(marks(core, Free(), rows), [0, -1, -1])
        self.assertEqual([in_ring(core, standing) for standing in core.play(rows)], [(), (0, 1), (0, 1)])
        self.assertEqual(in_ring(core, core.start()), ())

    def test_a_ring_of_three(self):
        plans = (("a", "ab"), ("b", "bc"), ("c", "ac"))
        core = Core(FREE, *[Task([(plan, 3)], []) for plan in plans])
        held = ((0,), ((0, 1, 1, 0), (0, 1, 1, 0), (0, 1, 1, 0)))
        self.assertEqual(in_ring(core, held), (0, 1, 2))
        self.assertIs(type(in_ring(core, held)), tuple)
        self.assertEqual(in_ring(core, ((0,), ((0, 1, 1, 0), (0, 1, 1, 0), (0, 1, 0, 0)))), ())

    def test_a_job_that_waits_for_a_ring_is_not_in_it(self):
        core = Core(FREE, Task([(("a",), 5)], []), *ring_core().tasks)
        held = ((0,), ((0, 1, 0, 0), (0, 1, 1, 0), (0, 1, 1, 0)))
        self.assertEqual(in_ring(core, held), (1, 2))
        held = ((0,), ((0, 1, 0, 0), (0, 1, 1, 0), (0, 1, 0, 0)))
        self.assertEqual(in_ring(core, held), ())

    def test_held_back_jobs_do_not_count(self):
        # Job 0 is held back by job 1, which job 0 blocks.
        tasks = (Task([(("a", "ab"), 5)], []), Task([(("c", "ac"), 5)], []))
        statuses = ((0, 1, 1, 0), (0, 1, 1, 0))
        choice = Choice("last", "ceil")
        self.assertEqual([choice.blocker(tasks, statuses, number) for number in (0, 1)], [1, 0])
        self.assertEqual(in_ring(Core(FREE, *tasks, choice=choice), ((0,), statuses)), ())

    def test_it_forgets(self):
        core = ring_core()
        self.assertEqual(next_mark(core, Free(), -1, core.start(), (1, (-1, -1), -1, 0), core.start()), 0)


class ModelTest(unittest.TestCase):
    """Promises of drawn cores break in drawn runs where the point says."""

    def test_drawn_runs(self):
        for seed in range(200):
            core = drawn_core(seed)
            draw = random.Random(seed + 3)
            standing = core.start()
            rows, standings = [], []
            for _ in range(15):
                options = model.options(core, standing, [])
                busy = [row for row in options if row[2] >= 0]
                row = draw.choice(busy or options)
                standing = model.step(core, standing, row)
                rows.append(row)
                standings.append(standing)
            for number, task in enumerate(core.tasks):
                self.assertEqual(breaks_at(core, Due(number), rows), first_late(task, number, standings))
                if task.server:
                    word = [1 if row[2] == number else 0 for row in rows]
                    expected = first_short(word, len(task.nodes[0][0]), task.edges[0][2])
                    self.assertEqual(breaks_at(core, Fed(number), rows), expected)
            word = [1 if row[0] == 1 and row[2] == -1 else 0 for row in rows]
            self.assertEqual(breaks_at(core, Spare(1, 3), rows), first_short(word, 1, 3))
            found = [model.in_ring(core, standing) for standing in standings]
            self.assertEqual([in_ring(core, standing) for standing in standings], found)

    def test_all_places_of_crossed_plans(self):
        sizes = set()
        for plans in itertools.product(CROSSED, repeat=3):
            core = Core(FREE, *[Task([(plan, 8)], []) for plan in plans], choice=Choice("first", "ceil"))
            for statuses in itertools.product(*[[(0, 3, done, 0) for done in range(len(plan))] for plan in plans]):
                held = "".join(task.held(status) for task, status in zip(core, statuses))
                if len(set(held)) == len(held):
                    standing = ((0,), statuses)
                    found = in_ring(core, standing)
                    self.assertEqual(found, model.in_ring(core, standing))
                    sizes.add(len(found))
        self.assertEqual(sizes, {0, 2, 3})


def first_late(task, number, standings):
    for index, standing in enumerate(standings):
        status = standing[1][number]
        if model.unfinished(task, status) and status[1] >= task.nodes[status[0]][1]:
            return index
    return None


def first_short(word, q, p):
    for index in range(len(word)):
        period = word[index // p * p:index + 1]
        if sum(period) + p - len(period) < q:
            return index
    return None


if __name__ == "__main__":
    unittest.main()

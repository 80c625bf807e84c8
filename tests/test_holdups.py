"""Points 30 and 31, and what point 2 says of hold-ups."""

import random
import unittest

import model
from firstbreach.choices import Choice
from firstbreach.cores import Core
from firstbreach.errors import TooLarge
from firstbreach.holdups import held_up, hinderers, stretch
from firstbreach.supplies import Supply
from firstbreach.tasks import Task
from samples import drawn_core, graph_of, keeps_books

ALWAYS = Supply.always()


def ticks_held_up(core, number, standing, row):
    """Whether a job of the task is held up in the row."""
    bit, comes, ran, more = row
    statuses = model.arrivals(core, standing[1], comes)
    task, status = core.tasks[number], statuses[number]
    if ran == -1 or not model.unfinished(task, status) or status[1] >= task.nodes[status[0]][1]:
        return False

    def place(i):
        node, age, _, over = statuses[i]
        orders = {"first": i, "last": -i, "dues": core.tasks[i].nodes[node][1] - age}
        return (over if core.guard == "after" else 0, orders[core.choice.order], i)

    return place(ran) > place(number)


def last_hold_up(core, number, rows):
    """How often the last job that has come by the end of the run has been held up, counted row by row."""
    standing = core.start()
    count = 0
    for row in rows:
        before = standing[1][number]
        arrived = model.arrivals(core, standing[1], row[1])[number]
        if not model.unfinished(core.tasks[number], before) and arrived != before:
            count = 0
        count += ticks_held_up(core, number, standing, row)
        standing = core.after(standing, row)
    return count


def all_hold_ups(core, number):
    """The greatest hold-up and all tasks that run in its ticks, by a search through all options."""
    graph = graph_of(core, core.parties)
    waiting = [(core.start(), 0)]
    seen = set()
    greatest, ran = 0, set()
    while waiting:
        standing, count = pair = waiting.pop()
        if pair in seen:
            continue
        seen.add(pair)
        for row, after in graph[standing]:
            fresh = not model.unfinished(core.tasks[number], standing[1][number])
            later = (0 if fresh else count) + ticks_held_up(core, number, standing, row)
            greatest = max(greatest, later)
            if ticks_held_up(core, number, standing, row):
                ran.add(row[2])
            waiting.append((after, later))
    return greatest, tuple(sorted(ran))


HOLDING = (("a",), ("a", "a", "a"), ("b",), ("b", "b", "b"), ("", "a", "a"), ("ab", "a"), ("a", "ab", "b"), ("a",) * 4)


def drawn_locked_core(seed):
    """A core whose jobs often hold locks for some ticks."""
    draw = random.Random(seed)
    while True:
        tasks = []
        for _ in range(draw.choice((2, 2, 3))):
            plans = draw.sample(HOLDING, draw.choice((1, 1, 1, 2)))
            nodes = [(plan, draw.randint(max(len(plan), 3), 7)) for plan in plans]
            steady = len(nodes) == 1 and draw.random() < 0.2
            edges = [(u, v, 7) for u in range(len(nodes)) for v in range(len(nodes)) if steady or draw.random() < 0.8]
            tasks.append(Task(nodes, edges, steady=steady))
        choice = Choice(draw.choice(("first", "last", "dues")), *draw.sample(("lend", "ceil"), draw.randint(0, 2)))
        supply = draw.choice((ALWAYS, ALWAYS, Supply.share(2, 3)))
        try:
            core = Core(supply, *tasks, choice=choice, guard=draw.choice(("cut", "after", "trust")))
        except TooLarge:
            continue
        if core.weight <= 4000:
            return core


def rare(*plan):
    return Task([(plan, 8)], [(0, 0, 8)])


class HoldUpCase(unittest.TestCase):
    def check(self, core, number):
        pair = held_up(core, number)
        self.assertIs(type(pair), tuple)
        count, run = pair
        self.assertIs(type(run), list)
        told = all_hold_ups(core, number)
        self.assertEqual((count, hinderers(core, number)), told)
        if count == 0:
            self.assertEqual(run, [])
        else:
            self.assertTrue(keeps_books(core, run, core.parties))
            self.assertEqual(last_hold_up(core, number, run), count)
            standing = ([core.start()] + core.play(run))[-2]
            self.assertTrue(ticks_held_up(core, number, standing, run[-1]))
        return told


class HeldUpTest(HoldUpCase):
    def test_a_count_of_0(self):
        core = Core(ALWAYS, Task.plain(1, 2, 3), Task.plain(2, 4, 5))
        self.assertEqual(held_up(core, 0), (0, []))
        self.assertEqual(self.check(core, 0), (0, ()))
        # The job of task 1 waits, but for a job that is more urgent.
        self.assertEqual(self.check(core, 1), (0, ()))

    def test_a_hold_up_through_a_lock(self):
        core = Core(ALWAYS, Task([(("a",), 4)], [(0, 0, 4)]), Task([(("", "a", "a", "a"), 8)], [(0, 0, 8)]))
        self.assertEqual(self.check(core, 0), (2, (1,)))
        self.assertEqual(held_up(core, 0)[1][-1], (1, (-1, -1), 1, 0))
        self.assertEqual(self.check(core, 1), (0, ()))

    def test_only_ticks_ahead_of_the_due_count(self):
        for due, count in ((1, 1), (2, 2), (3, 3), (4, 3)):
            core = Core(ALWAYS, Task([(("a",), due)], [(0, 0, 8)]), Task([(("a",) * 4, 8)], [(0, 0, 8)]))
            self.assertEqual(self.check(core, 0), (count, (1,)))

    def test_a_job_that_is_held_back(self):
        tasks = (rare("a"), rare("b"), rare("a", "a", "a"))
        core = Core(ALWAYS, *tasks, choice=Choice("first", "ceil", "lend"))
        self.assertEqual(self.check(core, 1), (2, (2,)))
        self.assertEqual(self.check(core, 0), (2, (2,)))
        self.assertEqual(self.check(core.changed(choice=Choice("first")), 1), (0, ()))

    def test_several_hinderers(self):
        tasks = (rare("a"), rare(""), rare("a", "a", "a"))
        self.assertEqual(self.check(Core(ALWAYS, *tasks), 0)[1], (1, 2))
        self.assertEqual(self.check(Core(ALWAYS, *tasks, choice=Choice("first", "lend", "ceil")), 0), (2, (2,)))

    def test_ticks_that_are_kept_back_do_not_count(self):
        core = Core(Supply.share(1, 2), rare("a"), rare("a", "a"))
        self.assertEqual(self.check(core, 0), (1, (1,)))

    def test_the_ticks_need_not_be_consecutive(self):
        # The server runs in every other tick, between the ticks of the job with the lock.
        core = Core(ALWAYS, Task.serving(1, 2), rare("a"), rare("a", "a", "a", "a"))
        self.assertEqual(self.check(core, 1), (3, (2,)))

    def test_an_order_with_the_guard_after(self):
        # No job asks for more where all keep their books, so that the guard changes nothing.
        tasks = (Task([(("a",), 4)], [(0, 0, 5)]), Task([(("a", "a"), 6)], [(0, 0, 7)]))
        for order in ("first", "last", "dues"):
            for guard in ("cut", "after", "trust"):
                core = Core(ALWAYS, *tasks, choice=Choice(order, "lend"), guard=guard)
                told = {"first": ((1, (1,)), (0, ())), "last": ((0, ()), (0, ())), "dues": ((1, (1,)), (0, ()))}
                self.assertEqual((self.check(core, 0), self.check(core, 1)), told[order])

    def test_a_task_of_several_nodes(self):
        long_and_short = Task([(("a",), 8), (("a",) * 4, 8)], [(0, 1, 8), (1, 0, 8)])
        core = Core(ALWAYS, Task([(("a",), 2), (("a",), 8)], [(0, 1, 8), (1, 0, 8)]), long_and_short)
        self.assertEqual(self.check(core, 0), (3, (1,)))
        turned = Core(ALWAYS, long_and_short, Task([(("a", "a"), 8)], [(0, 0, 8)]))
        self.assertEqual(self.check(turned, 0), (1, (1,)))

    def test_against_all_options(self):
        counts = []
        for seed in range(120):
            core = drawn_locked_core(seed) if seed < 80 else drawn_core(seed, most_weight=2500)
            for number in range(len(core.tasks)):
                counts.append(self.check(core, number)[0])
        self.assertGreater(len([count for count in counts if count > 0]), 10)
        self.assertGreater(max(counts), 1)


class StretchTest(HoldUpCase):
    def test_a_stretch_of_0(self):
        self.assertEqual(stretch(Core(ALWAYS, Task.plain(4, 8, 8)), 0), 0)
        locks = Task([(("a", "a"), 8)], [])
        self.assertEqual(stretch(Core(ALWAYS, Task.plain(1, 8, 8), locks), 0), 0)
        self.assertEqual(stretch(Core(ALWAYS, Task([(("a",), 8)], []), Task([(("a",), 8)], [])), 0), 0)
        self.assertEqual(stretch(Core(ALWAYS, locks, Task([(("a", "a"), 8)], [])), 1), 0)

    def test_each_order(self):
        short, long = Task([(("a", "a"), 8)], []), Task([(("a", "a", "a"), 7)], [])
        for order, told in (("first", (2, 0)), ("last", (0, 1)), ("dues", (0, 1))):
            core = Core(ALWAYS, short, long, choice=Choice(order))
            self.assertEqual((stretch(core, 0), stretch(core, 1)), told, order)

    def test_consecutive_numbers(self):
        user = Task([(("b",), 8)], [])
        self.assertEqual(stretch(Core(ALWAYS, user, Task([(("b", "b", "", "b"), 8)], [])), 0), 1)
        self.assertEqual(stretch(Core(ALWAYS, user, Task([(("b", "b", "b", "b"), 8)], [])), 0), 3)
        self.assertEqual(stretch(Core(ALWAYS, user, Task([(("", "b", "b", "b"), 8)], [])), 0), 2)
        self.assertEqual(stretch(Core(ALWAYS, user, Task([(("b", "", "b", "b"), 8)], [])), 0), 1)

    def test_a_change_from_lock_to_lock(self):
        both = Task([(("ab",), 8)], [])
        self.assertEqual(stretch(Core(ALWAYS, both, Task([(("a", "ab", "b"), 8)], [])), 0), 2)
        self.assertEqual(stretch(Core(ALWAYS, both, Task([(("a", "b", "a"), 8)], [])), 0), 0)
        self.assertEqual(stretch(Core(ALWAYS, Task([(("b",), 8)], []), Task([(("a", "ab", "b"), 8)], [])), 0), 1)

    def test_the_ceiling_is_at_most_the_level(self):
        tasks = (Task([(("a",), 8)], []), Task([(("b",), 8)], []), Task([(("a", "a", "a"), 8)], []))
        core = Core(ALWAYS, *tasks)
        self.assertEqual([stretch(core, number) for number in range(3)], [2, 2, 0])
        other = Core(ALWAYS, tasks[1], tasks[0], tasks[2])
        self.assertEqual([stretch(other, number) for number in range(3)], [0, 2, 0])

    def test_each_node_and_each_task_behind(self):
        two = Task([(("a",), 3), (("a", "a"), 3)], [])
        core = Core(ALWAYS, two, two, Task([(("a", "a", "a"), 3), (("",), 3)], []))
        self.assertEqual([stretch(core, number) for number in range(3)], [2, 2, 0])
        self.assertEqual([stretch(core.changed(tasks=core.tasks[::-1]), number) for number in range(3)], [1, 1, 0])

    def test_hold_ups_are_at_most_the_stretch(self):
        equal = 0
        for seed in range(60):
            core = drawn_locked_core(seed)
            if core.choice.order != "dues":
                safe = core.changed(choice=Choice(core.choice.order, "lend", "ceil"))
                for number in range(len(safe.tasks)):
                    count = held_up(safe, number)[0]
                    self.assertLessEqual(count, stretch(safe, number))
                    equal += 0 < count == stretch(safe, number)
        self.assertGreater(equal, 10)


if __name__ == "__main__":
    unittest.main()

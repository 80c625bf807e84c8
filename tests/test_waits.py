"""The functions of waits, with points 11, 13, 14 and 15."""

import itertools
import unittest

import model
from firstbreach.choices import Choice
from firstbreach.cores import Core
from firstbreach.supplies import Supply
from firstbreach.tasks import NONE, Task
from firstbreach.waits import holders, runs_for, waits
from samples import CROSSED, drawn_core, drawn_run

ALWAYS = Supply.always()


def task_with(*plan, due=8):
    return Task([(plan, due)], [(0, 0, 8)])


def at(done, age=1, over=0):
    return (0, age, done, over)


class HoldersTest(unittest.TestCase):
    CORE = Core(ALWAYS, task_with("bc", "bc"), task_with("a", "a", ""), task_with("a", "b"))

    def test_no_job(self):
        self.assertEqual(holders(self.CORE, self.CORE.start()), {})
        self.assertEqual(holders(Core(ALWAYS), Core(ALWAYS).start()), {})

    def test_the_locks_in_ascending_order(self):
        found = holders(self.CORE, ((0,), (at(1), at(1), at(1))))
        self.assertEqual(list(found.items()), [("a", 1), ("b", 0), ("c", 0)])

    def test_a_job_that_has_not_begun_or_goes_on_without_the_lock(self):
        self.assertEqual(holders(self.CORE, ((0,), (at(0), at(2), at(1)))), {})

    def test_a_job_that_is_finished_or_asks_for_more(self):
        self.assertEqual(holders(self.CORE, ((0,), (at(2), NONE, NONE))), {})
        self.assertEqual(holders(self.CORE, ((0,), (at(2, over=1), at(1), NONE))), {"a": 1})

    def test_what_is_returned_is_new(self):
        standing = ((0,), (at(1), NONE, NONE))
        holders(self.CORE, standing).clear()
        self.assertEqual(holders(self.CORE, standing), {"b": 0, "c": 0})


class WaitsTest(unittest.TestCase):
    def test_no_job(self):
        core = Core(ALWAYS, task_with("a"), choice=Choice("first", "ceil"))
        self.assertEqual(waits(core, core.start()), [])
        self.assertEqual(waits(Core(ALWAYS), Core(ALWAYS).start()), [])
        self.assertEqual(waits(core, ((0,), (at(1),))), [])

    def test_a_blocked_job(self):
        core = Core(ALWAYS, task_with("a"), task_with("a", "a"))
        self.assertEqual(waits(core, ((0,), (at(0), at(1)))), [(0, 1, 1)])
        self.assertEqual(waits(core, ((0,), (at(0), at(0)))), [])

    def test_blocked_with_and_without_ceil_and_lend(self):
        for rules in ((), ("lend",), ("ceil",), ("lend", "ceil")):
            core = Core(ALWAYS, task_with("ab"), task_with("b", "b"), choice=Choice("first", *rules))
            self.assertEqual(waits(core, ((), (at(0), at(1)))), [(0, 1, 1)])

    def test_a_job_that_is_held_back(self):
        tasks = (task_with("a", ""), task_with("b"), task_with("a", "a"))
        standing = ((0,), (NONE, at(0), at(1)))
        self.assertEqual(waits(Core(ALWAYS, *tasks, choice=Choice("first", "ceil")), standing), [(1, 2, 0)])
        self.assertEqual(waits(Core(ALWAYS, *tasks), standing), [])

    def test_several_jobs_ascending(self):
        tasks = (task_with("a", ""), task_with("b"), task_with("a", "a"))
        core = Core(ALWAYS, *tasks, choice=Choice("first", "ceil"))
        self.assertEqual(waits(core, ((0,), (at(0), at(0), at(1)))), [(0, 2, 1), (1, 2, 0)])

    def test_a_ring(self):
        core = Core(ALWAYS, task_with("a", "ab"), task_with("b", "bc"), task_with("c", "ac"))
        self.assertEqual(waits(core, ((0,), (at(1), at(1), at(1)))), [(0, 1, 1), (1, 2, 1), (2, 0, 1)])


class RunsForTest(unittest.TestCase):
    CHAIN = (task_with("a"), task_with("b", "ab"), task_with("b", "b"))
    STANDING = ((0,), (at(0), at(0), at(1)))

    def test_no_job(self):
        for rules in ((), ("lend",)):
            core = Core(ALWAYS, *self.CHAIN, choice=Choice("first", *rules))
            self.assertEqual(runs_for(core, core.start()), (-1, -1, -1))
            self.assertEqual(runs_for(Core(ALWAYS, choice=Choice("first", *rules)), ((0,), ())), ())

    def test_a_job_runs_for_itself(self):
        core = Core(ALWAYS, *self.CHAIN)
        self.assertEqual(runs_for(core, self.STANDING), (0, 1, 2))
        self.assertEqual(runs_for(core, ((0,), (at(0), NONE, at(2)))), (0, -1, -1))

    def test_with_lend_a_blocker_runs_for_the_job_that_waits(self):
        core = Core(ALWAYS, *self.CHAIN, choice=Choice("first", "lend"))
        self.assertEqual(runs_for(core, self.STANDING), (0, 1, 1))
        self.assertEqual(runs_for(core, ((0,), (NONE, NONE, at(1)))), (-1, -1, 2))

    def test_at_the_end_and_on_the_way(self):
        tasks = (task_with("a"), task_with("a", "ab"), task_with("b", "b"))
        core = Core(ALWAYS, *tasks, choice=Choice("first", "lend"))
        self.assertEqual(runs_for(core, ((0,), (at(0), at(1), at(1)))), (0, 0, 0))

    def test_the_most_urgent_one_counts(self):
        tasks = (task_with("a", "a"), task_with("a"), task_with("a"))
        standing = ((0,), (at(1), at(0, 2), at(0, 1)))
        for order, told in (("first", (0, 1, 2)), ("last", (2, 1, 2)), ("dues", (1, 1, 2))):
            core = Core(ALWAYS, *tasks, choice=Choice(order, "lend"))
            self.assertEqual(runs_for(core, standing), told, order)

    def test_the_guard_counts(self):
        tasks = (task_with(""), task_with("a", "a"), task_with("a"))
        standing = ((0,), (at(1, over=1), at(1), at(0)))
        for guard in ("trust", "after"):
            core = Core(ALWAYS, *tasks, choice=Choice("first", "lend"), guard=guard)
            self.assertEqual(runs_for(core, standing), (0, 1, 2))
        later = Core(ALWAYS, task_with("a", "a"), task_with("a"), choice=Choice("last", "lend"), guard="after")
        self.assertEqual(runs_for(later, ((0,), (at(1), at(1, over=1)))), (0, 1))

    def test_jobs_that_are_held_back_count(self):
        tasks = (task_with("b", ""), task_with("c"), task_with("b", "b"))
        standing = ((0,), (NONE, at(0), at(1)))
        self.assertEqual(runs_for(Core(ALWAYS, *tasks, choice=Choice("first", "lend", "ceil")), standing), (-1, 1, 1))
        self.assertEqual(runs_for(Core(ALWAYS, *tasks, choice=Choice("first", "lend")), standing), (-1, 1, 2))
        self.assertEqual(runs_for(Core(ALWAYS, *tasks, choice=Choice("first", "ceil")), standing), (-1, 1, 2))

    def test_a_ring(self):
        tasks = (task_with("a", "ab"), task_with("b", "bc"), task_with("c", "ac"))
        standing = ((0,), (at(1), at(1), at(1)))
        for order, job in (("first", 0), ("last", 2)):
            self.assertEqual(runs_for(Core(ALWAYS, *tasks, choice=Choice(order, "lend")), standing), (job,) * 3)
            self.assertEqual(runs_for(Core(ALWAYS, *tasks, choice=Choice(order)), standing), (0, 1, 2))


class ModelTest(unittest.TestCase):
    def check(self, core, standing):
        statuses = standing[1]
        numbers = range(len(core.tasks))
        kinds = {number: model.waiting(core.choice, core.tasks, statuses, number) for number in numbers}
        told = [(number, blocker, int(kind == "blocked")) for number, (kind, blocker) in kinds.items() if kind]
        self.assertEqual(waits(core, standing), told)
        held = {lock: number for number in numbers for lock in model.lock_sets(core.tasks[number], statuses[number])[0]}
        self.assertEqual(list(holders(core, standing).items()), sorted(held.items()))
        ways = {}
        for number in core.choice.urgent(core.tasks, statuses, core.guard):
            way = [number]
            while "lend" in core.choice.rules and kinds[way[-1]][0] and kinds[way[-1]][1] not in way:
                way.append(kinds[way[-1]][1])
            ways[number] = way
        led = [[number for number, way in ways.items() if one in way] for one in numbers]
        self.assertEqual(runs_for(core, standing), tuple(jobs[0] if jobs else -1 for jobs in led))
        return len(told)

    def test_drawn_runs(self):
        waiting = 0
        for seed in range(150):
            core = drawn_core(seed)
            for standing in drawn_run(core, seed, 15)[1]:
                waiting += self.check(core, standing)
        self.assertGreater(waiting, 50)

    def test_all_places_of_crossed_plans(self):
        for plans in itertools.product(CROSSED[:4], repeat=3):
            for order, rules in (("first", ("lend",)), ("last", ("lend", "ceil")), ("dues", ("ceil",))):
                core = Core(ALWAYS, *[Task([(plan, 8)], []) for plan in plans], choice=Choice(order, *rules))
                for done in itertools.product(*[range(len(plan)) for plan in plans]):
                    standing = ((0,), tuple(at(one) for one in done))
                    held = "".join(task.held(status) for task, status in zip(core, standing[1]))
                    if len(set(held)) == len(held):
                        self.check(core, standing)


if __name__ == "__main__":
    unittest.main()

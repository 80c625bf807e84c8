"""Point 35, and what point 2 says of changes."""

import itertools
import random
import unittest

from firstbreach.choices import Choice
from firstbreach.cores import Core
from firstbreach.errors import (
    InvalidChange, InvalidChoice, InvalidCore, InvalidPromise, InvalidSupply, InvalidTask, TooLarge
)
from firstbreach.healing import apply_change, healings, unhealed
from firstbreach.judging import breaks_at, judge
from firstbreach.promises import Due, Fed, Free, Spare
from firstbreach.supplies import Supply
from firstbreach.tasks import Task
from samples import drawn_core, keeps_books

ALWAYS = Supply.always()
PAIR = Core(ALWAYS, Task.plain(2, 4, 4), Task.plain(1, 2, 2), choice=Choice("first", "lend"), door="open")
CROSSED = Core(ALWAYS, Task([(("a", "ab"), 4)], [(0, 0, 6)]), Task([(("b", "ab"), 8)], [(0, 0, 8)]))


def ring_supply(size):
    return Supply(size, [(state, 1, (state + 1) % size) for state in range(size)])


def parts(core):
    """All that a core is made of, as plain values."""
    tasks = [(task.nodes, task.edges, task.steady) for task in core.tasks]
    supply = (core.supply.size, core.supply.steps, core.supply.starts)
    return (supply, tasks, core.choice.order, core.choice.rules, core.door, core.guard)


class MadeTest(unittest.TestCase):
    def check(self, core, change, place, told):
        before = parts(core)
        changed = apply_change(core, change)
        self.assertIsInstance(changed, Core)
        self.assertIsNot(changed, core)
        self.assertEqual(parts(core), before)
        expected = list(before)
        expected[place] = told
        self.assertEqual(parts(changed), tuple(expected))

    def test_the_order(self):
        for order in ("first", "last", "dues"):
            self.check(PAIR, ("order", order), 2, order)

    def test_the_rules(self):
        self.check(PAIR, ("rules", ()), 3, ())
        self.check(PAIR, ("rules", ("lend", "ceil")), 3, ("ceil", "lend"))
        self.check(PAIR, ("rules", ["ceil"]), 3, ("ceil",))

    def test_the_door_and_the_guard(self):
        for door in ("shut", "open"):
            self.check(PAIR, ("door", door), 4, door)
        for guard in ("cut", "after", "trust"):
            self.check(PAIR, ("guard", guard), 5, guard)

    def test_the_supply(self):
        share = Supply.share(2, 3)
        self.check(PAIR, ("share", 2, 3), 0, (share.size, share.steps, share.starts))

    def test_a_due(self):
        kept = (PAIR.tasks[1].nodes, ((0, 0, 2),), False)
        self.check(PAIR, ("due", 0, 0, 3), 1, [(((("", ""), 3),), ((0, 0, 4),), False), kept])

    def test_a_plan(self):
        kept = (PAIR.tasks[0].nodes, ((0, 0, 4),), False)
        self.check(PAIR, ("plan", 1, 0, ("a", "")), 1, [kept, (((("a", ""), 2),), ((0, 0, 2),), False)])
        self.check(PAIR, ("plan", 1, 0, ["bc"]), 1, [kept, (((("bc",), 2),), ((0, 0, 2),), False)])

    def test_one_of_two_nodes(self):
        two = Task([(("a",), 2), (("", "b"), 3)], [(0, 1, 5), (1, 0, 6)])
        core = Core(ALWAYS, two)
        edges = ((0, 1, 5), (1, 0, 6))
        self.check(core, ("due", 0, 1, 6), 1, [(((("a",), 2), (("", "b"), 6)), edges, False)])
        self.check(core, ("plan", 0, 0, ("", "")), 1, [(((("", ""), 2), (("", "b"), 3)), edges, False)])

    def test_a_steady_task_stays_steady(self):
        core = Core(ALWAYS, Task.serving(1, 4))
        self.check(core, ("due", 0, 0, 3), 1, [(((("",), 3),), ((0, 0, 4),), True)])
        self.check(core, ("plan", 0, 0, ("", "")), 1, [(((("", ""), 4),), ((0, 0, 4),), True)])

    def test_a_change_to_what_stands_makes_a_new_core(self):
        for change in (("order", "first"), ("rules", ("lend",)), ("door", "open"), ("guard", "cut"), ("due", 0, 0, 4)):
            changed = apply_change(PAIR, change)
            self.assertIsNot(changed, PAIR)
            self.assertEqual(parts(changed), parts(PAIR))


class RefusedTest(unittest.TestCase):
    def refused(self, core, change, cause):
        before = parts(core)
        with self.assertRaises(InvalidChange) as caught:
            apply_change(core, change)
        self.assertEqual(caught.exception.change, change)
        if cause is None:
            self.assertIsNone(caught.exception.__cause__)
        else:
            self.assertIs(type(caught.exception.__cause__), cause)
        self.assertEqual(parts(core), before)

    def test_an_unknown_first_word(self):
        for change in (("gap", 0, 0, 4), ("supply", 1, 2), ("Order", "first"), ("",), ("tasks",), ("choice", "first")):
            self.refused(PAIR, change, None)

    def test_an_order_or_rules(self):
        self.refused(PAIR, ("order", "lend"), InvalidChoice)
        self.refused(PAIR, ("order", ""), InvalidChoice)
        self.refused(PAIR, ("rules", ("lend", "lend")), InvalidChoice)
        self.refused(PAIR, ("rules", ("ceil", "first")), InvalidChoice)

    def test_a_door_or_a_guard(self):
        self.refused(PAIR, ("door", "cut"), InvalidCore)
        self.refused(PAIR, ("guard", "open"), InvalidCore)

    def test_a_share(self):
        for q, p in ((3, 2), (-1, 2), (1, 0), (9, 9)):
            self.refused(PAIR, ("share", q, p), InvalidSupply)

    def test_a_due(self):
        for due in (1, 5, 9, 0, -1):
            self.refused(PAIR, ("due", 0, 0, due), InvalidTask)

    def test_a_plan(self):
        for plan in ((), ("", "", "", "", ""), ("", "", "", "", "", ""), ("ba",), ("d",), ("", "", "")):
            self.refused(PAIR, ("plan", 1, 0, plan), InvalidTask)

    def test_a_task_or_a_node_that_does_not_exist(self):
        for task, node in ((2, 0), (-1, 0), (0, 1), (0, -1), (9, 9)):
            self.refused(PAIR, ("due", task, node, 4), None)
            self.refused(PAIR, ("plan", task, node, ("",)), None)
            self.refused(PAIR, ("due", task, node, 99), None)
        self.refused(Core(ALWAYS), ("due", 0, 0, 4), None)

    def test_a_core_that_would_be_too_large(self):
        # The weight is the size times 28 with one entry in the plan, 37 with two.
        core = Core(ring_supply(3000), Task.plain(1, 8, 8))
        self.refused(core, ("plan", 0, 0, ("", "")), TooLarge)
        wide = Core(ring_supply(2), *[Task([(("",) * length, 8)], [(0, 0, 8)]) for length in (1, 2, 2)])
        self.refused(wide, ("share", 4, 8), TooLarge)
        self.assertEqual(apply_change(wide, ("share", 1, 1)).weight, 28 * 37 * 37)

    def test_the_change_of_the_error_stays_as_it_was(self):
        plan = ["ba"]
        with self.assertRaises(InvalidChange) as caught:
            apply_change(PAIR, ("plan", 0, 0, plan))
        plan.append("")
        self.assertEqual(caught.exception.change, ("plan", 0, 0, ["ba"]))


class HealingsTest(unittest.TestCase):
    def test_no_promise(self):
        self.assertEqual(healings(PAIR, [], [("order", "last"), ("order", "x")]), [()])
        self.assertEqual(healings(PAIR, [], []), [()])

    def test_no_change(self):
        self.assertEqual(healings(PAIR, [Due(0)], []), [()])
        self.assertEqual(healings(PAIR, [Due(1)], []), [])
        self.assertEqual(healings(PAIR, (Due(7),), ()), [])

    def test_one_change_heals(self):
        changes = [("rules", ()), ("order", "last"), ("order", "dues"), ("guard", "trust")]
        self.assertEqual(healings(PAIR, [Due(0), Due(1)], changes), [(1,), (2,)])
        self.assertEqual(healings(CROSSED, [Free()], [("rules", ("lend",)), ("rules", ("ceil",))]), [(1,)])

    def test_two_changes_heal(self):
        core = Core(Supply.share(1, 2), Task.plain(2, 4, 4), Task.plain(1, 2, 2))
        changes = [("share", 1, 1), ("order", "last"), ("door", "open"), ("order", "dues")]
        self.assertEqual(healings(core, [Due(0), Due(1)], changes), [(0, 1), (0, 3)])

    def test_one_and_two_changes_in_their_order(self):
        core = Core(ALWAYS, Task.plain(2, 3, 3), Task.plain(1, 1, 4), Task.plain(1, 8, 8))
        promises = [Due(0), Due(1)]
        changes = [("due", 1, 0, 2), ("plan", 0, 0, ("",)), ("order", "last"), ("order", "dues")]
        told = healings(core, promises, changes)
        self.assertEqual(told, sorted(told, key=lambda one: (len(one), one)))
        self.assertEqual(told, self.least_healings(core, promises, changes))

    def test_changes_that_can_be_made_in_one_order_only(self):
        core = Core(ALWAYS, Task.plain(1, 1, 4), Task.plain(1, 1, 4))
        later, longer = ("due", 0, 0, 2), ("plan", 0, 0, ("", ""))
        self.assertEqual(healings(core, [Due(0), Due(1)], [("order", "last"), later]), [(0, 1)])
        self.assertEqual(healings(core, [], [longer, later]), [()])
        # With the due of 2 a plan of two entries is right; the other way round the plan is too long.
        slow = Core(Supply.share(1, 2), Task([(("",), 1)], [(0, 0, 4)], steady=True))
        self.assertEqual(healings(slow, [Due(0)], [("due", 0, 0, 2), ("plan", 0, 0, ("", ""))]), [(0,)])
        fed = Core(ALWAYS, Task([(("",), 2)], [(0, 0, 4)], steady=True))
        self.assertEqual(healings(fed, [Fed(0)], [("plan", 0, 0, ("", "", "")), ("due", 0, 0, 4)]), [(1,)])
        self.assertEqual(unhealed(fed, [Fed(0)], [("due", 0, 0, 4), ("plan", 0, 0, ("",) * 3)], (0, 1)), None)
        with self.assertRaises(InvalidChange):
            unhealed(fed, [Fed(0)], [("plan", 0, 0, ("",) * 3), ("due", 0, 0, 4)], (0, 1))

    def test_the_last_of_several_changes_of_one_thing_counts(self):
        changes = [("order", "dues"), ("order", "first")]
        self.assertEqual(healings(PAIR, [Due(1)], changes), [(0,)])
        self.assertEqual(healings(PAIR, [Due(1)], changes[::-1]), [(1,)])

    def test_a_promise_that_fits_only_after_a_change(self):
        core = Core(ALWAYS, Task([(("",), 2)], [(0, 0, 4)], steady=True))
        self.assertEqual(healings(core, [Fed(0)], [("due", 0, 0, 4)]), [(0,)])
        self.assertEqual(healings(core, [Due(0, late=2)], [("due", 0, 0, 4)]), [()])
        self.assertEqual(healings(core, [Due(0, late=3)], [("due", 0, 0, 1)]), [(0,)])
        self.assertEqual(healings(core, [Due(3)], [("order", "last")]), [])

    def test_changes_that_cannot_be_made(self):
        self.assertEqual(healings(PAIR, [Due(1)], [("order", "x"), ("due", 4, 0, 4), ("order", "last")]), [(2,)])

    def least_healings(self, core, promises, changes):
        def heals(chosen):
            changed = core
            try:
                for index in chosen:
                    changed = apply_change(changed, changes[index])
                return all([judge(changed, promise, changed.parties).holds for promise in promises])
            except (InvalidChange, InvalidPromise):
                return False

        numbers = range(len(changes))
        sets = [one for size in range(len(changes) + 1) for one in itertools.combinations(numbers, size)]
        healing = [one for one in sets if heals(one)]
        return [one for one in healing if not any(set(other) < set(one) for other in healing)]

    def test_drawn_cores(self):
        sizes = []
        for seed in range(150):
            draw = random.Random(seed)
            core = drawn_core(seed, most_weight=300)
            if seed > 60:
                slow = Supply.share(1, draw.choice((1, 2, 2)))
                core = Core(slow, Task.plain(draw.randint(1, 2), 3, 5), Task.plain(1, draw.randint(1, 2), 5))
            promises = [Due(number) for number in range(len(core.tasks))]
            changes = [self.drawn_change(draw) for _ in range(draw.randint(0, 5))]
            before = list(changes), list(promises), parts(core)
            told = healings(core, promises, changes)
            self.assertEqual(told, self.least_healings(core, promises, changes), seed)
            self.assertEqual((changes, promises, parts(core)), before)
            sizes += [len(one) for one in told]
        self.assertGreater(sizes.count(0), 5)
        self.assertGreater(sizes.count(1), 3)
        self.assertGreater(len(sizes) - sizes.count(0) - sizes.count(1), 0)

    def drawn_change(self, draw):
        return draw.choice((
            ("order", draw.choice(("first", "last", "dues"))),
            ("rules", draw.choice(((), ("ceil",), ("lend",), ("lend", "ceil")))),
            ("share", draw.randint(1, 2), draw.randint(1, 2)),
            ("due", draw.randint(0, 1), draw.randint(0, 1), draw.randint(1, 5)),
            ("plan", draw.randint(0, 1), 0, draw.choice((("",), ("a",), ("", "")))),
        ))


class UnhealedTest(unittest.TestCase):
    CHANGES = [("order", "last"), ("order", "x"), ("due", 0, 0, 2), ("share", 1, 2)]

    def test_promises_that_hold(self):
        self.assertIsNone(unhealed(PAIR, [Due(0), Due(1)], self.CHANGES, (0,)))
        self.assertIsNone(unhealed(PAIR, [Due(0)], self.CHANGES, ()))
        self.assertIsNone(unhealed(PAIR, [], self.CHANGES, (0, 2, 3)))

    def test_the_first_promise_that_does_not_hold(self):
        promises = [Due(0), Due(1), Spare(1, 1), Free()]
        promise, run = unhealed(PAIR, promises, self.CHANGES, ())
        self.assertIs(promise, promises[1])
        self.assertEqual(breaks_at(PAIR, Due(1), run), len(run) - 1)
        self.assertTrue(keeps_books(PAIR, run, PAIR.parties))
        self.assertEqual(len(run), len(judge(PAIR, Due(1), PAIR.parties).run))
        self.assertIs(unhealed(PAIR, promises, self.CHANGES, (0,))[0], promises[2])

    def test_the_run_is_one_of_the_changed_core(self):
        promise, run = unhealed(PAIR, [Due(0), Due(1)], self.CHANGES, (0, 3))
        changed = apply_change(apply_change(PAIR, ("order", "last")), ("share", 1, 2))
        self.assertEqual(breaks_at(changed, promise, run), len(run) - 1)
        self.assertTrue(keeps_books(changed, run, changed.parties))

    def test_lists_as_indexes(self):
        self.assertIsNone(unhealed(PAIR, [Due(1)], self.CHANGES, [0]))

    def test_a_change_that_cannot_be_made(self):
        for chosen, index in (((1,), 1), ((0, 1, 3), 1)):
            with self.assertRaises(InvalidChange) as caught:
                unhealed(PAIR, [Due(9)], self.CHANGES, chosen)
            self.assertEqual(caught.exception.change, self.CHANGES[index])
            self.assertIs(type(caught.exception.__cause__), InvalidChoice)
        with self.assertRaises(InvalidChange) as caught:
            unhealed(PAIR, [], [("due", 2, 0, 4)], (0,))
        self.assertIsNone(caught.exception.__cause__)

    def test_a_promise_that_does_not_fit(self):
        # Due(1) does not hold, but a promise behind it does not fit.
        with self.assertRaises(InvalidPromise):
            unhealed(PAIR, [Due(1), Due(2)], self.CHANGES, ())
        with self.assertRaises(InvalidPromise):
            unhealed(PAIR, [Fed(0)], self.CHANGES, (0,))

    def test_the_core_and_the_lists_stay(self):
        promises, changes, chosen, before = [Due(0), Due(1)], list(self.CHANGES), [0, 3], parts(PAIR)
        first, second = promises
        unhealed(PAIR, promises, changes, chosen)
        healings(PAIR, promises, changes)
        self.assertEqual((promises, changes, chosen, parts(PAIR)), ([first, second], self.CHANGES, [0, 3], before))


class SentencesTest(unittest.TestCase):
    """What keeps the promises Due(i) of a core in which they all hold."""

    def sound_cores(self):
        for seed in range(250):
            core = drawn_core(seed, most_weight=1000)
            dues = [Due(number) for number in range(len(core.tasks))]
            if core.tasks and unhealed(core, dues, [], ()) is None:
                yield core, dues

    def test_a_greater_gap(self):
        raised = 0
        for core, dues in self.sound_cores():
            for number, task in enumerate(core.tasks):
                for at, (u, v, gap) in enumerate(task.edges if not task.steady else ()):
                    if gap < 8:
                        edges = task.edges[:at] + ((u, v, gap + 1),) + task.edges[at + 1:]
                        tasks = list(core.tasks)
                        tasks[number] = Task(task.nodes, edges)
                        self.assertIsNone(unhealed(core.changed(tasks=tasks), dues, [], ()))
                        raised += 1
        self.assertGreater(raised, 20)

    def test_a_shorter_plan(self):
        left_out = 0
        for core, dues in self.sound_cores():
            if any(entry for task in core.tasks for plan, _ in task.nodes for entry in plan):
                continue
            for number, task in enumerate(core.tasks):
                for node, (plan, _) in enumerate(task.nodes):
                    if len(plan) > 1:
                        self.assertIsNone(unhealed(core, dues, [("plan", number, node, plan[:-1])], (0,)))
                        left_out += 1
        self.assertGreater(left_out, 0)


if __name__ == "__main__":
    unittest.main()

"""Points 12 to 15, the guard "after" of point 16, and what point 2 says of choices."""

import itertools
import unittest

from firstbreach.choices import Choice
from firstbreach.errors import InvalidChoice
from firstbreach.tasks import NONE, Task


def one(*plan, due=6):
    """A task with one node that has this plan."""
    return Task([(plan, due)], [(0, 0, 8)])


def new(age=0):
    return (0, age, 0, 0)


class BuildingTest(unittest.TestCase):
    def test_attributes(self):
        choice = Choice()
        self.assertEqual((choice.order, choice.rules), ("first", ()))
        for order in ("first", "last", "dues"):
            self.assertEqual(Choice(order).order, order)
        self.assertEqual(Choice("dues", "lend").rules, ("lend",))
        self.assertEqual(Choice("dues", "ceil").rules, ("ceil",))
        self.assertEqual(Choice("last", "lend", "ceil").rules, ("ceil", "lend"))
        self.assertEqual(Choice("last", "ceil", "lend").rules, ("ceil", "lend"))
        self.assertIs(type(Choice("last", "lend").rules), tuple)

    def test_another_order(self):
        for order in ("", "First", "due", "lend", "ceil"):
            with self.assertRaises(InvalidChoice):
                Choice(order)

    def test_another_rule(self):
        for rules in (("",), ("first",), ("lend", "Ceil"), ("half",), ("ceil", "lend", "dues")):
            with self.assertRaises(InvalidChoice):
                Choice("first", *rules)

    def test_a_rule_twice(self):
        for rules in (("lend", "lend"), ("ceil", "ceil"), ("lend", "ceil", "lend")):
            with self.assertRaises(InvalidChoice):
                Choice("first", *rules)


class LevelsTest(unittest.TestCase):
    TASKS = [
        Task([(("",), 5), (("b",), 4)], []),
        Task([(("a",), 3)], []),
        Task([(("", "ab"), 4), (("",), 8)], []),
    ]

    def test_levels(self):
        self.assertEqual(Choice("first").levels(self.TASKS), (0, 1, 2))
        self.assertEqual(Choice("last").levels(self.TASKS), (2, 1, 0))
        self.assertEqual(Choice("dues").levels(self.TASKS), (1, 0, 2))
        self.assertEqual(Choice("dues").levels(self.TASKS[::-1]), (1, 0, 2))
        self.assertEqual(Choice("dues").levels(tuple(self.TASKS)), (1, 0, 2))
        self.assertIs(type(Choice("dues").levels(self.TASKS)), tuple)

    def test_levels_by_dues_that_are_put_far_around(self):
        tasks = [one("", due=due) for due in (7, 3, 5, 2)]
        self.assertEqual(Choice("dues").levels(tasks), (3, 1, 2, 0))

    def test_levels_of_no_task_and_of_one(self):
        for order in ("first", "last", "dues"):
            self.assertEqual(Choice(order).levels([]), ())
            self.assertEqual(Choice(order).levels([one("")]), (0,))

    def test_equal_dues_go_by_number(self):
        self.assertEqual(Choice("dues").levels([one(""), one(""), one("", due=5)]), (1, 2, 0))

    def test_ceilings(self):
        self.assertEqual(Choice("first").ceiling(self.TASKS, "a"), 1)
        self.assertEqual(Choice("first").ceiling(self.TASKS, "b"), 0)
        self.assertEqual(Choice("last").ceiling(self.TASKS, "a"), 0)
        self.assertEqual(Choice("last").ceiling(self.TASKS, "b"), 0)
        self.assertEqual(Choice("dues").ceiling(self.TASKS, "a"), 0)
        self.assertEqual(Choice("dues").ceiling(tuple(self.TASKS), "b"), 1)

    def test_a_lock_that_no_plan_uses(self):
        for order in ("first", "last", "dues"):
            self.assertEqual(Choice(order).ceiling(self.TASKS, "c"), -1)
            self.assertEqual(Choice(order).ceiling([], "a"), -1)


class UrgentTest(unittest.TestCase):
    TASKS = [one("", due=8), one("", due=5), one("", due=6)]

    def test_each_order(self):
        statuses = [new(), new(), new()]
        self.assertEqual(Choice("first").urgent(self.TASKS, statuses, "cut"), [0, 1, 2])
        self.assertEqual(Choice("last").urgent(self.TASKS, statuses, "cut"), [2, 1, 0])
        self.assertEqual(Choice("dues").urgent(self.TASKS, statuses, "cut"), [1, 2, 0])
        self.assertEqual(Choice("dues").urgent(tuple(self.TASKS), tuple(statuses), "cut"), [1, 2, 0])

    def test_dues_go_by_what_is_left(self):
        self.assertEqual(Choice("dues").urgent(self.TASKS, [new(4), new(0), new(2)], "cut"), [0, 2, 1])
        self.assertEqual(Choice("dues").urgent(self.TASKS, [new(8), new(7), new(6)], "cut"), [1, 0, 2])

    def test_dues_go_by_the_node_of_the_job(self):
        tasks = [one("", due=5), Task([(("",), 3), (("",), 7)], [])]
        self.assertEqual(Choice("dues").urgent(tasks, [new(), (0, 0, 0, 0)], "cut"), [1, 0])
        self.assertEqual(Choice("dues").urgent(tasks, [new(), (1, 0, 0, 0)], "cut"), [0, 1])

    def test_equal_urgency_goes_by_number(self):
        self.assertEqual(Choice("dues").urgent(self.TASKS, [new(3), new(0), new(1)], "cut"), [0, 1, 2])
        self.assertEqual(Choice("dues").urgent(self.TASKS, [new(4), new(0), new(1)], "cut"), [0, 1, 2])
        self.assertEqual(Choice("dues").urgent(self.TASKS, [new(2), new(0), new(1)], "cut"), [1, 2, 0])

    def test_only_unfinished_jobs(self):
        statuses = [(0, 3, 1, 0), NONE, new(1)]
        for order in ("first", "last", "dues"):
            self.assertEqual(Choice(order).urgent(self.TASKS, statuses, "cut"), [2])
            self.assertEqual(Choice(order).urgent(self.TASKS, [NONE, NONE, NONE], "after"), [])
            self.assertEqual(Choice(order).urgent([], [], "cut"), [])

    def test_the_guard_after(self):
        asking = (0, 5, 1, 1)
        statuses = [asking, new(), asking]
        for guard in ("cut", "trust"):
            self.assertEqual(Choice("first").urgent(self.TASKS, statuses, guard), [0, 1, 2])
            self.assertEqual(Choice("last").urgent(self.TASKS, statuses, guard), [2, 1, 0])
            self.assertEqual(Choice("dues").urgent(self.TASKS, statuses, guard), [2, 0, 1])
        self.assertEqual(Choice("first").urgent(self.TASKS, statuses, "after"), [1, 0, 2])
        self.assertEqual(Choice("last").urgent(self.TASKS, statuses, "after"), [1, 2, 0])
        self.assertEqual(Choice("dues").urgent(self.TASKS, statuses, "after"), [1, 2, 0])

    def test_what_is_returned_is_new(self):
        choice = Choice()
        statuses = [new(), new(), new()]
        choice.urgent(self.TASKS, statuses, "cut").clear()
        self.assertEqual(choice.urgent(self.TASKS, statuses, "cut"), [0, 1, 2])
        self.assertEqual(statuses, [new(), new(), new()])


# Job 1 holds b, job 2 holds a; job 0 needs both.
HOLDING = [one("ab"), one("b", "b"), one("a", "a")]
HELD = [new(), (0, 2, 1, 0), (0, 2, 1, 0)]


class BlockedTest(unittest.TestCase):
    def test_the_first_lock_in_ascending_order_counts(self):
        for order, rules in itertools.product(("first", "last", "dues"), ((), ("lend",), ("ceil",))):
            choice = Choice(order, *rules)
            self.assertEqual(choice.blocker(HOLDING, HELD, 0), 2)
            self.assertEqual(choice.blocker(tuple(HOLDING), tuple(HELD), 0), 2)
            self.assertEqual(choice.blocker(HOLDING, [new(), (0, 2, 1, 0), (0, 2, 2, 0)], 0), 1)

    def test_who_needs_no_lock_is_not_blocked(self):
        for rules in ((), ("lend",), ("ceil",), ("lend", "ceil")):
            self.assertEqual(Choice("first", *rules).blocker(HOLDING, HELD, 1), -1)
            self.assertEqual(Choice("first", *rules).blocker(HOLDING, HELD, 2), -1)

    def test_who_has_no_unfinished_job_has_no_blocker(self):
        for status in (NONE, (0, 3, 1, 0)):
            self.assertEqual(Choice("first", "ceil").blocker(HOLDING, [status] + HELD[1:], 0), -1)

    def test_a_job_with_over_1_needs_and_holds_nothing(self):
        self.assertEqual(Choice("first", "ceil").blocker(HOLDING, [(0, 3, 1, 1)] + HELD[1:], 0), -1)
        self.assertEqual(Choice("first").blocker(HOLDING, [new(), (0, 2, 2, 1), (0, 2, 2, 1)], 0), -1)

    def test_own_locks_do_not_block(self):
        tasks = [one("a", "ab"), one("c", "c")]
        self.assertEqual(Choice("first").blocker(tasks, [(0, 1, 1, 0), (0, 1, 1, 0)], 0), -1)

    def test_locks_that_are_only_about_to_be_used_do_not_block(self):
        self.assertEqual(Choice("first").blocker(HOLDING, [new(), new(), new()], 0), -1)


class HeldBackTest(unittest.TestCase):
    # Levels under "first": 0, 1, 2. Ceilings: a 0, b 1, c 0.
    TASKS = [one("a", "c"), one("b", "b"), one("a", "a")]

    def test_a_ceiling_of_at_most_the_level(self):
        statuses = [NONE, new(), (0, 1, 1, 0)]
        self.assertEqual(Choice("first", "ceil").blocker(self.TASKS, statuses, 1), 2)
        self.assertEqual(Choice("first", "ceil", "lend").blocker(self.TASKS, statuses, 1), 2)
        self.assertEqual(Choice("first").blocker(self.TASKS, statuses, 1), -1)
        self.assertEqual(Choice("first", "lend").blocker(self.TASKS, statuses, 1), -1)

    def test_an_equal_ceiling_holds_back_and_a_greater_one_does_not(self):
        tasks = [one("b"), one("a"), one("a", "a")]
        statuses = [new(), new(), (0, 1, 1, 0)]
        self.assertEqual(Choice("first").ceiling(tasks, "a"), 1)
        self.assertEqual(Choice("first", "ceil").blocker(tasks, statuses, 0), -1)
        self.assertEqual(Choice("first", "ceil").blocker([one("b"), one("b"), one("a", "a")], statuses, 1), -1)
        self.assertEqual(Choice("first", "ceil").blocker([one("b"), one("ab"), one("c", "c")], statuses, 1), -1)
        # The other task with level 1 uses a in its second tick only.
        tasks = [one("b"), one("b", "a"), one("a", "a")]
        self.assertEqual(Choice("first", "ceil").blocker(tasks, statuses, 1), 2)

    def test_who_needs_no_lock_is_not_held_back(self):
        tasks = [one("a"), one("", "a"), one("a", "a")]
        self.assertEqual(Choice("first", "ceil").blocker(tasks, [NONE, new(), (0, 1, 1, 0)], 1), -1)

    def test_own_locks_do_not_hold_back(self):
        tasks = [one("a"), one("a", "ab"), one("")]
        self.assertEqual(Choice("first", "ceil").blocker(tasks, [NONE, (0, 1, 1, 0), NONE], 1), -1)

    def test_the_least_ceiling_counts(self):
        # Job 1 holds a, whose ceiling is 1, and job 2 holds b, whose ceiling is 0.
        tasks = [one("b"), one("a", "a"), one("b", "b"), one("c")]
        statuses = [NONE, (0, 1, 1, 0), (0, 1, 1, 0), new()]
        self.assertEqual(Choice("first", "ceil").blocker(tasks, statuses, 3), 2)

    def test_of_equal_ceilings_the_first_lock_counts(self):
        tasks = [one("ab"), one("b", "b"), one("a", "a"), one("c")]
        statuses = [NONE, (0, 1, 1, 0), (0, 1, 1, 0), new()]
        self.assertEqual(Choice("first", "ceil").blocker(tasks, statuses, 3), 2)
        tasks = [one("ab"), one("a", "a"), one("b", "b"), one("c")]
        self.assertEqual(Choice("first", "ceil").blocker(tasks, statuses, 3), 1)

    def test_levels_of_the_order_count(self):
        tasks = [one("b"), one("a", "a")]
        statuses = [new(), (0, 1, 1, 0)]
        # The ceiling of a is the level of task 1, the level of task 0 is less or greater.
        self.assertEqual(Choice("first", "ceil").blocker(tasks, statuses, 0), -1)
        self.assertEqual(Choice("last", "ceil").blocker(tasks, statuses, 0), 1)
        self.assertEqual(Choice("dues", "ceil").blocker(tasks, statuses, 0), -1)
        self.assertEqual(Choice("dues", "ceil").blocker([one("b"), one("a", "a", due=5)], statuses, 0), 1)

    def test_blocked_comes_ahead_of_held_back(self):
        # Job 0 needs b, which 2 holds; a, held by 1, has the lesser ceiling.
        tasks = [one("a"), one("b"), one("a", "a"), one("b", "b")]
        statuses = [NONE, new(), (0, 1, 1, 0), (0, 1, 1, 0)]
        self.assertEqual(Choice("first", "ceil").blocker(tasks, statuses, 1), 3)
        # The same with the holder of b as job 0; the order "last" turns the levels round.
        turned = statuses[::-1]
        self.assertEqual(Choice("last", "ceil").blocker(tasks[::-1], turned, 2), 0)


class ChosenTest(unittest.TestCase):
    def test_the_most_urgent_job(self):
        tasks = [one("", due=7), one("", due=5)]
        statuses = [new(), new()]
        self.assertEqual(Choice("first")(tasks, statuses, "cut"), 0)
        self.assertEqual(Choice("last")(tasks, statuses, "cut"), 1)
        self.assertEqual(Choice("dues")(tasks, statuses, "cut"), 1)
        self.assertEqual(Choice("dues")(tuple(tasks), (new(2), new()), "cut"), 0)

    def test_no_job(self):
        self.assertEqual(Choice()([], [], "cut"), -1)
        self.assertEqual(Choice("last", "lend", "ceil")([one(""), one("")], [NONE, (0, 3, 1, 0)], "cut"), -1)

    def test_the_guard_after(self):
        tasks = [one(""), one("")]
        statuses = [(0, 3, 1, 1), new()]
        self.assertEqual(Choice("first")(tasks, statuses, "trust"), 0)
        self.assertEqual(Choice("first")(tasks, statuses, "after"), 1)
        self.assertEqual(Choice("first")(tasks, [(0, 3, 1, 1), NONE], "after"), 0)

    def test_without_lend_the_next_free_job_is_chosen(self):
        tasks = [one("a"), one(""), one("a", "a")]
        statuses = [new(), new(), (0, 1, 1, 0)]
        self.assertEqual(Choice("first")(tasks, statuses, "cut"), 1)
        self.assertEqual(Choice("first", "ceil")(tasks, statuses, "cut"), 1)
        self.assertEqual(Choice("first", "lend")(tasks, statuses, "cut"), 2)
        self.assertEqual(Choice("first", "lend", "ceil")(tasks, statuses, "cut"), 2)

    def test_without_lend_a_job_held_back_is_passed_over(self):
        tasks = [one("b"), one("a"), one("b", "b")]
        statuses = [NONE, new(), (0, 1, 1, 0)]
        self.assertEqual(Choice("first")(tasks, statuses, "cut"), 1)
        self.assertEqual(Choice("first", "ceil")(tasks, statuses, "cut"), 2)
        self.assertEqual(Choice("first", "ceil", "lend")(tasks, statuses, "cut"), 2)

    def test_lend_follows_a_chain(self):
        tasks = [one("a"), one("", ""), one("a", "ab"), one("b", "b")]
        statuses = [new(), new(), (0, 1, 1, 0), (0, 1, 1, 0)]
        self.assertEqual(Choice("first", "lend")(tasks, statuses, "cut"), 3)
        self.assertEqual(Choice("first")(tasks, statuses, "cut"), 1)

    def test_a_ring_of_blocked_jobs(self):
        ring = [one("a", "ab"), one("b", "ab")]
        held = [(0, 1, 1, 0), (0, 1, 1, 0)]
        for order, rules in itertools.product(("first", "last", "dues"), ((), ("lend",), ("ceil",), ("lend", "ceil"))):
            choice = Choice(order, *rules)
            self.assertEqual(choice.blocker(ring, held, 0), 1)
            self.assertEqual(choice.blocker(ring, held, 1), 0)
            self.assertEqual(choice(ring, held, "cut"), -1)
            self.assertEqual(choice(ring + [one("")], held + [new()], "cut"), 2)

    def test_a_job_that_waits_for_a_ring(self):
        tasks = [one("a"), one("a", "ab"), one("b", "ab"), one("")]
        statuses = [new(), (0, 1, 1, 0), (0, 1, 1, 0), new()]
        for rules in ((), ("lend",)):
            self.assertEqual(Choice("first", *rules)(tasks, statuses, "cut"), 3)
            self.assertEqual(Choice("first", *rules)(tasks, statuses[:3] + [NONE], "cut"), -1)

    def test_arguments_stay(self):
        tasks = [one("a"), one("a", "ab"), one("b", "ab")]
        statuses = [new(), (0, 1, 1, 0), (0, 1, 1, 0)]
        kept = (list(tasks), list(statuses))
        Choice("dues", "lend", "ceil")(tasks, statuses, "after")
        self.assertEqual((tasks, statuses), kept)


if __name__ == "__main__":
    unittest.main()

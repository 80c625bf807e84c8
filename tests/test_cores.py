"""Points 16 to 21, and what point 2 says of cores."""

import random
import unittest

import model
from firstbreach.choices import Choice
from firstbreach.cores import Core
from firstbreach.errors import BadRow, InvalidCore, TooLarge, UnknownParty
from firstbreach.supplies import Supply
from firstbreach.tasks import NONE, Task
from samples import drawn_core

ALWAYS = Supply.always()
FREE = Supply.share(0, 1)
# After a tick kept back every tick is given; a second tick kept back is no word.
ONCE = Supply(2, [(0, 1, 0), (0, 0, 1), (1, 1, 1)])


def ring(size):
    return Supply(size, [(state, 1, (state + 1) % size) for state in range(size)])


class BuildingTest(unittest.TestCase):
    def test_attributes(self):
        tasks = (Task.plain(1, 2, 3), Task.serving(1, 4))
        choice = Choice("dues", "lend")
        core = Core(ALWAYS, *tasks, choice=choice, door="open", guard="trust")
        self.assertIs(core.supply, ALWAYS)
        self.assertEqual(core.tasks, tasks)
        self.assertIs(type(core.tasks), tuple)
        self.assertIs(core.choice, choice)
        self.assertEqual((core.door, core.guard), ("open", "trust"))
        self.assertEqual(core.parties, ("choice", "gaps0", "gaps1", "needs0", "needs1", "supply"))
        self.assertIs(type(core.parties), tuple)
        self.assertEqual(list(core), list(tasks))
        self.assertEqual([task.edges for task in core], [((0, 0, 3),), ((0, 0, 4),)])

    def test_what_stands_without_being_named(self):
        core = Core(ALWAYS)
        self.assertEqual((core.choice.order, core.choice.rules), ("first", ()))
        self.assertEqual((core.door, core.guard), ("shut", "cut"))

    def test_0_tasks(self):
        core = Core(Supply.share(1, 2))
        self.assertEqual((core.tasks, core.parties, core.weight), ((), ("choice", "supply"), 3))
        self.assertEqual(list(core), [])

    def test_3_and_4_tasks(self):
        task = Task.plain(1, 1, 1)
        core = Core(ALWAYS, task, task, task)
        parties = ("choice", "gaps0", "gaps1", "gaps2", "needs0", "needs1", "needs2", "supply")
        self.assertEqual(core.parties, parties)
        with self.assertRaises(InvalidCore):
            Core(ALWAYS, task, task, task, task)

    def test_doors_and_guards(self):
        for door in ("shut", "open"):
            self.assertEqual(Core(ALWAYS, door=door).door, door)
        for guard in ("cut", "after", "trust"):
            self.assertEqual(Core(ALWAYS, guard=guard).guard, guard)
        for more in ({"door": ""}, {"door": "cut"}, {"door": "Open"}, {"guard": ""}, {"guard": "shut"}, {"guard": "x"}):
            with self.assertRaises(InvalidCore):
                Core(ALWAYS, **more)

    def test_weights(self):
        self.assertEqual(Core(ALWAYS, Task.plain(1, 2, 3)).weight, 1 + 4 * 3)
        self.assertEqual(Core(Supply.share(2, 4), Task.plain(2, 2, 7)).weight, 8 * (1 + 8 * 4))
        two = Task([(("", "a"), 3), (("",), 5)], [(0, 1, 6), (0, 0, 4)])
        self.assertEqual(Core(ALWAYS, two).weight, 1 + 7 * 4 + 6 * 3)
        self.assertEqual(Core(ring(2), two, Task.plain(1, 2, 3)).weight, 2 * 47 * 13)

    def test_a_weight_of_100000_and_just_above(self):
        # Task.plain(1, 2, 2) has 1 + 3 * 3 = 10.
        self.assertEqual(Core(ring(1000), Task.plain(1, 2, 2), Task.plain(1, 2, 2)).weight, 100000)
        with self.assertRaises(TooLarge) as caught:
            Core(ring(1001), Task.plain(1, 2, 2), Task.plain(1, 2, 2))
        self.assertEqual(caught.exception.bound, 100000)
        # Task.plain(1, 8, 8) has 28, 1 + 8 * 4 is 33, and 1 + 6 * 6 is 37; 3 * 28 * 33 * 37 is 102564.
        large = (Task.plain(1, 8, 8), Task.plain(2, 7, 7), Task.plain(4, 5, 5))
        self.assertEqual(Core(ring(2), *large).weight, 68376)
        with self.assertRaises(TooLarge):
            Core(ring(3), *large)

    def test_invalid_core_comes_ahead_of_too_large(self):
        large = [Task.plain(4, 8, 8)] * 3
        with self.assertRaises(TooLarge):
            Core(ALWAYS, *large)
        for tasks, more in ((large, {"door": "x"}), (large, {"guard": "x"}), (large * 2, {})):
            with self.assertRaises(InvalidCore):
                Core(ALWAYS, *tasks, **more)

    def test_changed(self):
        tasks = [Task.plain(1, 2, 3), Task.serving(1, 4)]
        core = Core(ALWAYS, *tasks, choice=Choice("last"), door="open", guard="after")
        same = core.changed()
        self.assertIsNot(same, core)
        self.assertEqual(parts(same), parts(core))
        self.assertEqual(parts(core.changed(supply=FREE)), (FREE,) + parts(core)[1:])
        other = Choice("dues")
        self.assertEqual(parts(core.changed(choice=other)), parts(core)[:2] + (other,) + parts(core)[3:])
        self.assertEqual(parts(core.changed(door="shut")), parts(core)[:3] + ("shut", "after"))
        self.assertEqual(parts(core.changed(guard="trust")), parts(core)[:4] + ("trust",))
        fewer = core.changed(tasks=[tasks[1]])
        self.assertEqual((fewer.tasks, fewer.parties), ((tasks[1],), ("choice", "gaps0", "needs0", "supply")))
        self.assertEqual(core.changed(tasks=()).tasks, ())
        self.assertEqual(parts(core), (ALWAYS, tuple(tasks), core.choice, "open", "after"))

    def test_changed_copies_the_tasks(self):
        tasks = [Task.plain(1, 2, 3)]
        core = Core(ALWAYS).changed(tasks=tasks)
        tasks.append(Task.serving(1, 4))
        self.assertEqual(len(core.tasks), 1)

    def test_changed_raises_as_the_core_does(self):
        core = Core(ring(1000), Task.plain(1, 2, 2), Task.plain(1, 2, 2))
        with self.assertRaises(InvalidCore):
            core.changed(door="x")
        with self.assertRaises(InvalidCore):
            core.changed(tasks=[Task.plain(1, 2, 2)] * 4)
        with self.assertRaises(TooLarge):
            core.changed(supply=ring(1001))
        self.assertEqual(core.weight, 100000)


def parts(core):
    return (core.supply, core.tasks, core.choice, core.door, core.guard)


class StandingTest(unittest.TestCase):
    def test_the_start(self):
        supply = Supply(2, [(0, 1, 0), (1, 0, 1)], starts=(1, 0))
        self.assertEqual(Core(supply, Task.plain(1, 2, 3), Task.serving(1, 4)).start(), ((0, 1), (NONE, NONE)))
        self.assertEqual(Core(ALWAYS).start(), ((0,), ()))

    def test_a_tick_that_is_no_word(self):
        core = Core(ONCE)
        self.assertEqual(core.play([(0, (), -1, 0)] * 3), [((1,), ()), ((), ()), ((), ())])
        self.assertEqual(core.after(((), ()), (1, (), -1, 0)), ((), ()))

    def test_several_states(self):
        supply = Supply(3, [(0, 1, 2), (0, 1, 1), (1, 0, 1), (2, 1, 0)])
        core = Core(supply)
        self.assertEqual(core.play([(1, (), -1, 0), (1, (), -1, 0)]), [((1, 2), ()), ((0,), ())])

    def test_a_job_comes_runs_and_ages(self):
        core = Core(FREE, Task.plain(2, 3, 5))
        rows = [(0, (-1,), -1, 0), (1, (0,), 0, 0), (0, (-1,), -1, 0), (1, (-1,), 0, 0)] + [(1, (-1,), -1, 0)] * 3
        statuses = [standing[1][0] for standing in core.play(rows)]
        ages = [(0, 1, 1, 0), (0, 2, 1, 0), (0, 3, 2, 0), (0, 4, 2, 0), (0, 5, 2, 0), (0, 5, 2, 0)]
        self.assertEqual(statuses, [NONE] + ages)

    def test_an_age_at_the_cap(self):
        core = Core(FREE, Task([(("",), 4), (("",), 2)], [(0, 1, 6), (1, 0, 3)]))
        self.assertEqual(core.after(((0,), ((0, 6, 0, 0),)), (0, (-1,), -1, 0))[1], ((0, 6, 0, 0),))
        self.assertEqual(core.after(((0,), ((0, 5, 0, 0),)), (0, (-1,), -1, 0))[1], ((0, 6, 0, 0),))
        self.assertEqual(core.after(((0,), ((1, 3, 1, 0),)), (0, (-1,), -1, 0))[1], ((1, 3, 1, 0),))


class DoorTest(unittest.TestCase):
    TASK = Task([(("",), 2), (("",), 3)], [(0, 1, 4)])

    def cores(self):
        return [Core(FREE, self.TASK, door=door) for door in ("shut", "open")]

    def test_a_first_job_of_any_node_comes(self):
        for core in self.cores():
            for node in (0, 1):
                self.assertEqual(core.arrived(core.start(), (node,)), ((node, 0, 0, 0),))
            self.assertEqual(core.arrived(core.start(), (-1,)), (NONE,))

    def test_a_job_that_is_allowed_comes(self):
        for core in self.cores():
            self.assertEqual(core.arrived(((0,), ((0, 4, 1, 0),)), (1,)), ((1, 0, 0, 0),))

    def test_a_job_that_is_not_allowed(self):
        shut, opened = self.cores()
        for status, node in (((0, 3, 1, 0), 1), ((0, 4, 1, 0), 0), ((1, 3, 1, 0), 0)):
            self.assertEqual(shut.arrived(((0,), (status,)), (node,)), (status,))
            self.assertEqual(opened.arrived(((0,), (status,)), (node,)), ((node, 0, 0, 0),))

    def test_an_unfinished_job_turns_away_with_each_door(self):
        for core in self.cores():
            for status in ((0, 4, 0, 0), (0, 4, 1, 1), (0, 2, 0, 0)):
                for node in (0, 1):
                    self.assertEqual(core.arrived(((0,), (status,)), (node,)), (status,))

    def test_a_job_that_is_turned_away_may_be_followed_by_a_run(self):
        core = Core(FREE, self.TASK)
        self.assertEqual(core.after(((0,), ((0, 1, 0, 0),)), (1, (1,), 0, 0)), ((0,), ((0, 2, 1, 0),)))

    def test_each_task_has_its_own_arrival(self):
        core = Core(FREE, self.TASK, Task.plain(1, 2, 3))
        self.assertEqual(core.arrived(core.start(), (1, 0)), ((1, 0, 0, 0), (0, 0, 0, 0)))
        self.assertEqual(core.arrived(core.start(), (-1, 0)), (NONE, (0, 0, 0, 0)))


class GuardTest(unittest.TestCase):
    def over_after(self, guard, status, more):
        core = Core(FREE, Task.plain(2, 4, 6), guard=guard)
        return core.after(((0,), (status,)), (1, (-1,), 0, more))[1][0]

    def test_a_job_that_asks_for_more(self):
        self.assertEqual(self.over_after("cut", (0, 1, 1, 0), 1), (0, 2, 2, 0))
        self.assertEqual(self.over_after("after", (0, 1, 1, 0), 1), (0, 2, 2, 1))
        self.assertEqual(self.over_after("trust", (0, 1, 1, 0), 1), (0, 2, 2, 1))

    def test_a_job_that_does_not(self):
        for guard in ("cut", "after", "trust"):
            self.assertEqual(self.over_after(guard, (0, 1, 1, 0), 0), (0, 2, 2, 0))
            self.assertEqual(self.over_after(guard, (0, 1, 0, 0), 0), (0, 2, 1, 0))

    def test_a_job_that_has_asked(self):
        for guard in ("after", "trust"):
            self.assertEqual(self.over_after(guard, (0, 2, 2, 1), 0), (0, 3, 2, 0))
            self.assertEqual(self.over_after(guard, (0, 2, 2, 1), 1), (0, 3, 2, 1))

    def test_the_choice_gets_the_guard(self):
        tasks = (Task.plain(1, 5, 6), Task.plain(1, 5, 6))
        statuses = ((0, 2, 1, 1), (0, 2, 0, 0))
        self.assertEqual(Core(FREE, *tasks, guard="after").chosen(((0,), statuses), (-1, -1)), 1)
        self.assertEqual(Core(FREE, *tasks, guard="trust").chosen(((0,), statuses), (-1, -1)), 0)

    def test_chosen_looks_behind_the_arrivals(self):
        core = Core(FREE, Task.plain(1, 5, 6), Task.plain(1, 5, 6))
        self.assertEqual(core.chosen(core.start(), (-1, -1)), -1)
        self.assertEqual(core.chosen(core.start(), (-1, 0)), 1)
        self.assertEqual(core.chosen(core.start(), (0, 0)), 0)


class PossibleTest(unittest.TestCase):
    # Job 1 holds a, which job 0 needs.
    CORE = Core(
        ONCE, Task([(("", "a"), 5), (("",), 5)], []), Task([(("a", "a"), 5)], []), choice=Choice("first", "ceil")
    )
    STANDING = ((0,), ((0, 1, 1, 0), (0, 1, 1, 0)))

    def assert_bad(self, row, standing=None, core=None):
        standing = self.STANDING if standing is None else standing
        core = self.CORE if core is None else core
        for call in (core.after, core.breaches):
            with self.assertRaises(BadRow) as caught:
                call(standing, row)
            self.assertEqual(caught.exception.index, 0, row)
        good = (1, (-1,) * len(core.tasks), -1, 0)
        for before in range(3):
            with self.assertRaises(BadRow) as caught:
                core.play([good] * before + [row, good, row], start=younger(standing))
            self.assertEqual(caught.exception.index, before, row)

    def assert_good(self, row, standing=None):
        standing = self.STANDING if standing is None else standing
        after = self.CORE.after(standing, row)
        self.assertEqual(self.CORE.play([row], start=standing), [after])
        self.CORE.breaches(standing, row)

    def test_the_tick(self):
        self.assert_good((1, (-1, -1), 1, 0))
        self.assert_good((0, (-1, -1), -1, 0))
        self.assert_bad((2, (-1, -1), -1, 0))
        self.assert_bad((-1, (-1, -1), -1, 0))
        self.assert_bad((2, (-1, -1), 1, 0))

    def test_more(self):
        self.assert_good((1, (-1, -1), 1, 1))
        for more in (2, -1):
            self.assert_bad((1, (-1, -1), 1, more))
            self.assert_bad((1, (-1, -1), -1, more))

    def test_the_entries_of_the_jobs_that_come(self):
        self.assert_good((1, (1, 0), 1, 0))
        for comes in ((), (-1,), (-1, -1, -1), (-2, -1), (-1, -2), (2, -1), (-1, 1)):
            self.assert_bad((1, comes, 1, 0))
            self.assert_bad((1, comes, -1, 0))
            self.assert_bad((0, comes, -1, 0))

    def test_the_number_of_the_job_that_runs(self):
        for ran in (2, 3, -2):
            self.assert_bad((1, (-1, -1), ran, 0))

    def test_a_job_runs_only_in_a_given_tick(self):
        self.assert_bad((0, (-1, -1), 1, 0))
        self.assert_bad((0, (-1, -1), 1, 1))

    def test_a_job_that_runs_is_unfinished(self):
        finished = ((0,), ((0, 1, 2, 0), (0, 1, 2, 0)))
        self.assert_bad((1, (-1, -1), 0, 0), finished)
        self.assert_bad((1, (-1, -1), 1, 0), finished)
        self.assert_bad((1, (-1, -1), 1, 0), ((0,), (NONE, NONE)))
        self.assert_good((1, (-1, 0), 1, 0), ((0,), (NONE, NONE)))

    def test_a_job_that_is_turned_away_does_not_run(self):
        self.assert_bad((1, (0, -1), 0, 0), ((0,), ((0, 1, 2, 0), NONE)))

    def test_a_job_that_runs_is_not_blocked(self):
        self.assert_bad((1, (-1, -1), 0, 0))
        self.assert_good((1, (-1, -1), 0, 0), ((0,), ((0, 1, 0, 0), (0, 1, 1, 0))))

    def test_a_job_that_is_held_back_may_run(self):
        core = Core(ONCE, *[Task([((entry, entry), 5)], []) for entry in ("ab", "b", "a")], choice=Choice("first", "ceil"))
        standing = ((0,), (NONE, (0, 0, 0, 0), (0, 1, 1, 0)))
        self.assertEqual(core.chosen(standing, (-1, -1, -1)), 2)
        self.assertEqual(core.breaches(standing, (1, (-1, -1, -1), 1, 0)), ("choice",))

    def test_more_only_at_the_end_of_a_plan(self):
        self.assert_bad((1, (-1, -1), 0, 1), ((0,), ((0, 1, 0, 0), NONE)))
        self.assert_good((1, (-1, -1), 0, 1), ((0,), ((0, 1, 1, 0), NONE)))
        self.assert_good((1, (-1, -1), 0, 1), ((0,), ((1, 1, 0, 0), NONE)))
        self.assert_good((1, (-1, -1), 0, 1), ((0,), ((0, 1, 2, 1), NONE)))
        self.assert_bad((1, (-1, -1), -1, 1))
        self.assert_bad((0, (-1, -1), -1, 1))

    def test_any_tick_is_possible(self):
        self.assertEqual(self.CORE.breaches(((1,), (NONE, NONE)), (0, (-1, -1), -1, 0)), ("supply",))
        self.assert_good((0, (-1, -1), -1, 0), ((), (NONE, NONE)))

    def test_a_core_without_tasks(self):
        core = Core(ALWAYS)
        self.assertEqual(core.after(core.start(), (1, (), -1, 0)), core.start())
        self.assert_bad((1, (), 0, 0), core.start(), core)
        self.assert_bad((1, (-1,), -1, 0), core.start(), core)

    def test_the_index_from_the_start(self):
        good = (1, (-1, -1), -1, 0)
        with self.assertRaises(BadRow) as caught:
            self.CORE.play([good, good, (1, (-1, -1), 0, 0), good])
        self.assertEqual(caught.exception.index, 2)
        self.assertEqual(len(self.CORE.play([good, (1, (0, -1), 0, 0), good])), 3)

    def test_play_of_no_rows(self):
        self.assertEqual(self.CORE.play([]), [])
        self.assertEqual(self.CORE.play((), start=self.STANDING), [])

    def test_rows_may_be_listed_in_a_tuple_and_stay(self):
        rows = [(1, (0, -1), 0, 0), (1, (-1, -1), 0, 0)]
        played = self.CORE.play(rows)
        self.assertEqual(played, self.CORE.play(tuple(rows)))
        self.assertEqual(rows, [(1, (0, -1), 0, 0), (1, (-1, -1), 0, 0)])
        played.clear()
        self.assertEqual(len(self.CORE.play(rows)), 2)


def younger(standing):
    """The standing with jobs that have just come, so that some rows can lead to nothing else than greater ages."""
    states, statuses = standing
    return (states, tuple(status if status == NONE else (status[0], 0) + status[2:] for status in statuses))


class BreachTest(unittest.TestCase):
    CORE = Core(ONCE, Task.plain(1, 3, 4), Task.serving(1, 3), guard="trust")
    BUSY = ((0,), ((0, 1, 0, 0), (0, 1, 0, 0)))

    def test_the_supply(self):
        self.assertEqual(self.CORE.breaches(((1,), self.BUSY[1]), (0, (-1, -1), -1, 0)), ("supply",))
        self.assertEqual(self.CORE.breaches(((0,), self.BUSY[1]), (0, (-1, -1), -1, 0)), ())
        self.assertEqual(self.CORE.breaches(((), self.BUSY[1]), (0, (-1, -1), -1, 0)), ())
        self.assertEqual(self.CORE.breaches(((), self.BUSY[1]), (1, (-1, -1), 0, 0)), ())
        self.assertEqual(self.CORE.breaches(((0, 1), self.BUSY[1]), (0, (-1, -1), -1, 0)), ())

    def test_the_choice(self):
        self.assertEqual(self.CORE.breaches(self.BUSY, (1, (-1, -1), 0, 0)), ())
        self.assertEqual(self.CORE.breaches(self.BUSY, (1, (-1, -1), 1, 0)), ("choice",))
        self.assertEqual(self.CORE.breaches(self.BUSY, (1, (-1, -1), -1, 0)), ("choice",))
        self.assertEqual(self.CORE.breaches(self.BUSY, (0, (-1, -1), -1, 0)), ())

    def test_the_choice_looks_behind_the_arrivals(self):
        standing = ((0,), (NONE, (0, 1, 0, 0)))
        self.assertEqual(self.CORE.breaches(standing, (1, (-1, -1), 1, 0)), ())
        self.assertEqual(self.CORE.breaches(standing, (1, (0, -1), 1, 0)), ("choice",))
        self.assertEqual(self.CORE.breaches(standing, (1, (0, -1), 0, 0)), ())

    def test_gaps_of_a_job_that_comes_too_early(self):
        standing = ((0,), ((0, 3, 1, 0), (0, 2, 1, 0)))
        self.assertEqual(self.CORE.breaches(standing, (0, (0, -1), -1, 0)), ("gaps0",))
        self.assertEqual(self.CORE.breaches(standing, (0, (-1, 0), -1, 0)), ("gaps1",))
        self.assertEqual(self.CORE.breaches(standing, (0, (0, 0), -1, 0)), ("gaps0", "gaps1"))
        standing = ((0,), ((0, 4, 1, 0), (0, 2, 1, 0)))
        self.assertEqual(self.CORE.breaches(standing, (0, (0, -1), -1, 0)), ())

    def test_gaps_of_a_steady_task_that_owes_a_job(self):
        for status in (NONE, (0, 3, 1, 0), (0, 3, 0, 0)):
            standing = ((0,), (NONE, status))
            self.assertEqual(self.CORE.breaches(standing, (0, (-1, -1), -1, 0)), ("gaps1",))
            self.assertEqual(self.CORE.breaches(standing, (0, (-1, 0), -1, 0)), ())

    def test_a_job_that_is_turned_away_has_come(self):
        standing = ((0,), (NONE, (0, 3, 0, 0)))
        self.assertEqual(self.CORE.arrived(standing, (-1, 0)), (NONE, (0, 3, 0, 0)))
        self.assertEqual(self.CORE.breaches(standing, (0, (-1, 0), -1, 0)), ())
        standing = ((0,), ((0, 2, 0, 0), (0, 1, 0, 0)))
        self.assertEqual(self.CORE.arrived(standing, (0, 0)), standing[1])
        self.assertEqual(self.CORE.breaches(standing, (0, (0, 0), -1, 0)), ("gaps0", "gaps1"))

    def test_the_needs(self):
        for guard in ("cut", "after", "trust"):
            core = self.CORE.changed(guard=guard)
            self.assertEqual(core.breaches(self.BUSY, (1, (-1, -1), 0, 1)), ("needs0",))
            self.assertEqual(core.breaches(self.BUSY, (1, (-1, -1), 1, 1)), ("choice", "needs1"))

    def test_all_at_once(self):
        standing = ((1,), ((0, 2, 0, 0), (0, 3, 1, 0)))
        self.assertEqual(self.CORE.breaches(standing, (0, (0, -1), -1, 0)), ("gaps0", "gaps1", "supply"))
        standing = ((0,), ((0, 2, 0, 0), (0, 2, 0, 0)))
        told = self.CORE.breaches(standing, (1, (0, 0), 1, 1))
        self.assertEqual(told, ("choice", "gaps0", "gaps1", "needs1"))
        self.assertIs(type(told), tuple)


class OptionsTest(unittest.TestCase):
    CORE = Core(ONCE, Task.plain(1, 2, 2))

    def test_options_of_no_party(self):
        rows = [
            (0, (-1,), -1, 0), (0, (0,), -1, 0), (1, (-1,), -1, 0),
            (1, (0,), -1, 0), (1, (0,), 0, 0), (1, (0,), 0, 1),
        ]
        self.assertEqual(list(self.CORE.options(self.CORE.start(), [])), rows)

    def test_options_of_each_party(self):
        early = ((1,), ((0, 1, 0, 0),))
        free = [(0, (-1,), -1, 0), (0, (0,), -1, 0)]
        given = [(1, (c,), ran, more) for c in (-1, 0) for ran, more in ((-1, 0), (0, 0), (0, 1))]
        self.assertEqual(list(self.CORE.options(early, [])), free + given)
        self.assertEqual(list(self.CORE.options(early, ["supply"])), given)
        chosen = [row for row in given if row[2] == 0]
        self.assertEqual(list(self.CORE.options(early, ["choice"])), free + chosen)
        none = [row for row in free + given if row[1] == (-1,)]
        self.assertEqual(list(self.CORE.options(early, ["gaps0"])), none)
        plain = [row for row in free + given if row[3] == 0]
        self.assertEqual(list(self.CORE.options(early, ["needs0"])), plain)
        self.assertEqual(list(self.CORE.options(early, self.CORE.parties)), [(1, (-1,), 0, 0)])

    def test_a_party_that_is_listed_twice_counts_once(self):
        standing = ((1,), ((0, 1, 0, 0),))
        once = list(self.CORE.options(standing, ["gaps0", "supply"]))
        self.assertEqual(list(self.CORE.options(standing, ("supply", "gaps0", "gaps0", "supply"))), once)

    def test_a_supply_that_is_no_word_any_more(self):
        standing = ((), (NONE,))
        self.assertEqual([row[0] for row in self.CORE.options(standing, ["supply", "gaps0", "choice", "needs0"])], [0, 0, 1, 1])

    def test_unknown_parties(self):
        for kept, party in (
            (["gaps1"], "gaps1"), (["supply", "x", "y"], "x"), (("needs2", "gaps1"), "needs2"), ([""], ""),
            (["gaps0", "gaps"], "gaps"), (["gaps-1"], "gaps-1"),
        ):
            with self.assertRaises(UnknownParty) as caught:
                list(self.CORE.options(self.CORE.start(), kept))
            self.assertEqual(caught.exception.party, party)

    def test_each_option_once_and_ascending(self):
        core = Core(FREE, Task([(("",), 2), (("",), 3)], [(0, 1, 2)]), Task.plain(1, 2, 2))
        rows = list(core.options(core.start(), []))
        self.assertEqual(rows, sorted(set(rows)))
        self.assertEqual(len(rows), 6 + sum(1 + 2 * (a >= 0) + 2 * (b >= 0) for a in (-1, 0, 1) for b in (-1, 0)))

    def test_the_list_of_parties_stays(self):
        kept = ["supply", "choice"]
        list(self.CORE.options(self.CORE.start(), kept))
        self.assertEqual(kept, ["supply", "choice"])


class ModelTest(unittest.TestCase):
    """Drawn cores do in drawn runs what the points say."""

    def test_drawn_runs(self):
        kinds = set()
        for seed in range(150):
            core = drawn_core(seed)
            draw = random.Random(seed + 7)
            standing = core.start()
            kept = draw.sample(core.parties, draw.randint(0, len(core.parties)))
            for _ in range(12):
                kinds.add((core.door, core.guard, core.choice.order, core.choice.rules))
                self.follow(core, standing, draw.sample(core.parties, 2))
                rows = model.options(core, standing, kept) or model.options(core, standing, [])
                standing = model.step(core, standing, draw.choice(rows))
        self.assertGreater(len(kinds), 40)

    def follow(self, core, standing, kept):
        self.assertEqual(list(core.options(standing, [])), model.options(core, standing, []))
        self.assertEqual(list(core.options(standing, kept)), model.options(core, standing, kept))
        for row in model.all_rows(core):
            if model.possible(core, standing, row):
                statuses = model.arrivals(core, standing[1], row[1])
                self.assertEqual(core.arrived(standing, row[1]), statuses)
                chosen = model.chosen(core.choice, core.tasks, statuses, core.guard)
                self.assertEqual(core.chosen(standing, row[1]), chosen)
                self.assertEqual(core.after(standing, row), model.step(core, standing, row))
                self.assertEqual(core.breaches(standing, row), model.breaches(core, standing, row))
            else:
                with self.assertRaises(BadRow):
                    core.after(standing, row)


if __name__ == "__main__":
    unittest.main()

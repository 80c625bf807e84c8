"""Points 48 and 49, and what point 2 says of desks."""

import random
import unittest

import joints_model
import model
from firstbreach.choices import Choice
from firstbreach.cores import Core
from firstbreach.desks import Desk, Trial, rehearse
from firstbreach.errors import (
    BadAct, BadRow, Broken, InvalidCore, NotNow, Refused, TooLarge, UnknownCore, UnknownPath
)
from firstbreach.halls import Hall, Taking
from firstbreach.houses import House
from firstbreach.judging import Verdict
from firstbreach.levels import Level
from firstbreach.supplies import Supply
from firstbreach.tasks import NONE, Task
from joints_model import drawn_level
from test_houses import state_of

ALWAYS = Supply.always()
HALF = Supply.share(1, 2)
SERVER = Task.serving(1, 2)
SHORT = Task.plain(1, 2, 3)
LONG = Task.plain(2, 4, 4)
IDLE = ((1, (), -1, 0), ())


def late_pairs(level, joint):
    """The ascending list of the pairs (path, task) of the jobs that a row which leads there leaves late."""
    found = []
    for path, (_, statuses) in joints_model.flat(level, joint).items():
        for number, (task, status) in enumerate(zip(level[path].tasks, statuses)):
            if model.unfinished(task, status) and status[1] >= task.nodes[status[0]][1]:
                found.append((path, number))
    return sorted(found)


def searched(level, joint):
    """The joint standings to which runs in which all keep their books lead, and the length of a shortest break."""
    return joints_model.searched(
        level, joint, level.parties, lambda mark, before, row, after: -1 if late_pairs(level, after) else 0
    )


class DeskCase(unittest.TestCase):
    def desk(self, *levels, hall=None):
        """A desk over a house with these levels, called a, b and c."""
        return Desk(House(dict(zip("abc", levels)), hall))

    def check_run(self, level, joint, run, count):
        """Holds a run that shows that a level is not secure against the words of point 48; returns its late pairs."""
        self.assertEqual(len(run), count)
        before = joint
        for at, row in enumerate(run):
            self.assertEqual(set(level.breaches(before, row)) & set(level.parties), set())
            before = level.after(before, row)
            self.assertEqual(bool(late_pairs(level, before)), at == count - 1)
        return late_pairs(level, before)

    def check_secure(self, desk, name):
        """Holds what the desk says of a level against a search through all options; returns it."""
        level, joint = desk.house.level_of(name), desk.house.joint_of(name)
        before = state_of(desk.house)
        verdict = desk.secure(name)
        self.assertIsInstance(verdict, Verdict)
        found, count = searched(level, joint)
        self.assertIs(verdict.holds, count is None)
        if verdict.holds:
            self.assertIsNone(verdict.run)
            self.assertEqual(len(set(verdict.table)), len(verdict.table))
            self.assertEqual(set(verdict.table), set(found))
            distances = [found[pair] for pair in verdict.table]
            self.assertEqual(distances, sorted(distances))
        else:
            self.assertIsNone(verdict.table)
            self.check_run(level, joint, verdict.run, count)
        self.assertEqual(state_of(desk.house), before)
        return verdict

    def refused(self, desk, deed, level, joint):
        """Holds the refusal of a deed, which would lead to this level and joint standing; returns the error."""
        before = state_of(desk.house)
        with self.assertRaises(Refused) as caught:
            deed()
        error = caught.exception
        self.assertEqual(state_of(desk.house), before)
        _, count = searched(level, joint)
        late = self.check_run(level, joint, error.run, count)
        self.assertEqual((error.path, error.task), late[0])
        cause = error.__cause__
        self.assertIs(type(cause), Broken)
        self.assertEqual((cause.path, cause.task), (error.path, error.task))
        return error

    def unchanged(self, desk, kind, deed):
        """Holds that a deed raises an error of this kind and changes nothing; returns the error."""
        before = state_of(desk.house)
        with self.assertRaises(kind) as caught:
            deed()
        self.assertIs(type(caught.exception), kind)
        self.assertEqual(state_of(desk.house), before)
        return caught.exception


class SecureTest(DeskCase):
    def test_from_the_start(self):
        for level, holds in (
            (Level(Core(ALWAYS)), True),
            (Level(Core(ALWAYS, SHORT, LONG)), True),
            (Level(Core(HALF, LONG)), False),
            (Level(Core(ALWAYS, LONG, SHORT)), False),
            (Level(Core(ALWAYS, SERVER), {0: Level(Core(HALF, Task.plain(1, 3, 3)))}), True),
            (Level(Core(ALWAYS, SERVER), {0: Level(Core(HALF, SHORT))}), True),
            (Level(Core(ALWAYS, SERVER), {0: Level(Core(HALF, LONG))}), True),
            (Level(Core(ALWAYS, SHORT, SERVER), {1: Level(Core(HALF, SHORT))}), False),
            (Level(Core(ALWAYS, SHORT, SERVER), {1: Level(Core(HALF, Task.plain(1, 4, 4)))}), True),
        ):
            self.assertIs(self.check_secure(self.desk(level), "a").holds, holds)

    def test_only_the_asked_level_counts(self):
        desk = self.desk(Level(Core(ALWAYS, SHORT)), Level(Core(HALF, LONG)))
        self.assertTrue(self.check_secure(desk, "a"))
        self.assertFalse(self.check_secure(desk, "b"))

    def test_on_the_way(self):
        level = Level(Core(ALWAYS, SHORT, LONG))
        desk = self.desk(level)
        desk.tick({"a": ((1, (0, 0), 1, 0), ())})
        self.assertTrue(self.check_secure(desk, "a"))
        desk.tick({"a": ((1, (-1, -1), -1, 0), ())})
        verdict = self.check_secure(desk, "a")
        self.assertFalse(verdict)
        self.assertEqual(len(verdict.run), 2)

    def test_a_job_that_is_late_by_now(self):
        level = Level(Core(ALWAYS, SHORT))
        desk = self.desk(level)
        desk.tick({"a": ((1, (0,), -1, 0), ())})
        desk.tick({"a": ((1, (-1,), -1, 0), ())})
        self.assertEqual(desk.house.joint_of("a"), (((0,), ((0, 2, 0, 0),)), ()))
        verdict = self.check_secure(desk, "a")
        self.assertTrue(verdict)
        self.assertEqual(verdict.table[0], (desk.house.joint_of("a"), 0))
        # If a row has to leave it unfinished, it breaks in this row.
        desk = self.desk(Level(Core(ALWAYS, SHORT, Task.plain(2, 2, 4))))
        desk.tick({"a": ((1, (-1, 0), -1, 0), ())})
        desk.tick({"a": ((1, (-1, -1), -1, 0), ())})
        self.assertEqual(len(self.check_secure(desk, "a").run), 1)

    def test_states_that_are_no_more(self):
        level = Level(Core(ALWAYS, SHORT))
        desk = self.desk(level)
        desk.tick({"a": ((0, (-1,), -1, 0), ())})
        self.assertEqual(desk.house.joint_of("a"), (((), (NONE,)), ()))
        verdict = self.check_secure(desk, "a")
        self.assertFalse(verdict)
        self.assertEqual(len(verdict.run), 2)
        # Without tasks nothing can break.
        desk = self.desk(Level(Core(ALWAYS)))
        desk.tick({"a": ((0, (), -1, 0), ())})
        self.assertEqual(len(self.check_secure(desk, "a").table), 1)

    def test_states_of_a_guest_that_are_no_more(self):
        level = Level(Core(ALWAYS, SERVER), {0: Level(Core(HALF, Task.plain(1, 3, 3)))})
        desk = self.desk(level)
        for _ in range(2):
            desk.tick({"a": ((1, (-1,), -1, 0), (((0, (-1,), -1, 0), ()),))})
        self.assertEqual(level.part(desk.house.joint_of("a"), (0,))[0], ())
        self.assertTrue(self.check_secure(desk, "a"))

    def test_a_secure_level_stays_secure(self):
        for seed in range(40):
            level = drawn_level(seed, 30)
            desk = self.desk(level)
            if not desk.secure("a"):
                continue
            draw = random.Random(seed)
            for _ in range(6):
                rows = list(level.joint_options(desk.house.joint_of("a"), level.parties))
                desk.tick({"a": draw.choice(rows)})
                self.assertTrue(desk.secure("a"))

    def test_drawn_levels(self):
        told = set()
        for seed in range(400):
            level = drawn_level(seed, 30)
            desk = self.desk(level)
            draw = random.Random(seed)
            kept = draw.choice(([], level.parties))
            for _ in range(draw.choice((0, 0, 2, 4))):
                desk.tick({"a": draw.choice(list(level.joint_options(desk.house.joint_of("a"), kept)))})
            verdict = self.check_secure(desk, "a")
            told.add((verdict.holds, desk.house.clock > 0, len(level.paths) > 1))
        self.assertEqual(len(told), 8)


class AskTest(DeskCase):
    def test_a_task_that_joins(self):
        desk = self.desk(Level(Core(ALWAYS, SHORT)))
        self.assertEqual(desk.ask("a", LONG), 1)
        self.assertEqual(desk.house.level_of("a").core.tasks, (SHORT, LONG))
        self.assertEqual(desk.house.joint_of("a"), (((0,), (NONE, NONE)), ()))
        self.assertTrue(self.check_secure(desk, "a"))
        desk = self.desk(Level(Core(ALWAYS)))
        self.assertEqual([desk.ask("a", Task.plain(1, 8, 8)) for _ in range(3)], [0, 1, 2])

    def test_statuses_and_states_stay(self):
        desk = self.desk(Level(Core(HALF, Task.plain(1, 4, 4))))
        desk.tick({"a": ((1, (0,), -1, 0), ())})
        states, statuses = desk.house.joint_of("a")[0]
        self.assertEqual(desk.ask("a", Task.plain(1, 8, 8)), 1)
        self.assertEqual(desk.house.joint_of("a"), ((states, statuses + (NONE,)), ()))

    def test_a_task_that_is_refused(self):
        level = Level(Core(ALWAYS, SHORT, LONG))
        desk = self.desk(level)
        error = self.refused(desk, lambda: desk.ask("a", SHORT), level.joined((), SHORT), (((0,), (NONE,) * 3), ()))
        self.assertEqual(error.path, ())

    def test_the_least_pair(self):
        # The first tick is kept back, and steady tasks come in it, so that all of their jobs are late by its end.
        supply = Supply(2, [(0, 0, 1), (1, 1, 1)])
        steady = Task([(("",), 1)], [(0, 0, 8)], steady=True)
        lax = Task([(("",), 3)], [(0, 0, 8)], steady=True)
        desk = self.desk(Level(Core(supply, lax, lax)))
        level, joint = desk.house.level_of("a"), (((0,), (NONE,) * 3), ())
        error = self.refused(desk, lambda: desk.ask("a", steady), level.joined((), steady), joint)
        self.assertEqual((error.path, error.task, len(error.run)), ((), 2, 1))
        for tasks, path, task in (((steady, steady), (), 0), ((lax, steady, steady), (), 1)):
            level = Level(Core(supply, *tasks))
            desk = self.desk(level)
            error = self.refused(desk, lambda: desk.exchange("a", door="open"), level, level.start())
            self.assertEqual((error.path, error.task, len(error.run)), (path, task, 1))
        server = Task.serving(1, 4)
        guest = Level(Core(Supply.share(1, 4), steady))
        for tasks, guests, path, task in (
            ((server, server), {0: guest, 1: guest}, (0,), 0),
            ((server, server, steady), {0: guest, 1: guest}, (), 2),
            ((lax, server), {1: guest}, (1,), 0),
        ):
            level = Level(Core(supply, *tasks), guests)
            desk = self.desk(level)
            error = self.refused(desk, lambda: desk.exchange("a", door="open"), level, level.start())
            self.assertEqual((error.path, error.task, len(error.run)), (path, task, 1))

    def test_a_task_of_a_guest(self):
        level = Level(Core(ALWAYS, SERVER), {0: Level(Core(HALF, Task.plain(1, 4, 8)))})
        desk = self.desk(level)
        self.assertEqual(desk.ask("a", Task.plain(1, 8, 8), path=(0,)), 1)
        self.assertEqual(len(desk.house.level_of("a")[(0,)].tasks), 2)
        self.assertEqual(desk.house.level_of("a").core.tasks, (SERVER,))
        self.assertEqual(desk.house.joint_of("a")[1][0][0][1], (NONE, NONE))
        changed = desk.house.level_of("a").joined((0,), SHORT)
        joint = (((0,), (NONE,)), ((((0,), (NONE,) * 3), ()),))
        error = self.refused(desk, lambda: desk.ask("a", SHORT, path=(0,)), changed, joint)
        self.assertEqual((error.path, error.task), ((0,), 2))

    def test_a_task_of_the_host_that_makes_a_guest_late(self):
        level = Level(Core(ALWAYS, SERVER, choice=Choice("last")), {0: Level(Core(HALF, SHORT))})
        desk = self.desk(level)
        joint = (((0,), (NONE, NONE)), level.start()[1])
        late = Task.plain(1, 1, 8)
        error = self.refused(desk, lambda: desk.ask("a", late), level.joined((), late), joint)
        self.assertEqual(error.path, (0,))

    def test_a_steady_task_begins_in_the_next_tick(self):
        desk = self.desk(Level(Core(ALWAYS)))
        desk.tick({"a": IDLE})
        desk.ask("a", SERVER)
        desk.tick({"a": ((1, (0,), 0, 0), ())})
        self.assertEqual(desk.house.breach_ticks(), {})
        desk.tick({"a": ((1, (-1,), -1, 0), ())})
        desk.tick({"a": ((1, (-1,), -1, 0), ())})
        self.assertEqual(desk.house.breach_ticks(), {("a", (), "gaps0"): 3})

    def test_errors(self):
        level = Level(Core(ALWAYS, SHORT, SERVER), {1: Level(Core(HALF))})
        desk = self.desk(level)
        error = self.unchanged(desk, UnknownCore, lambda: desk.ask("b", SHORT, path=(7,)))
        self.assertEqual(error.name, "b")
        error = self.unchanged(desk, UnknownPath, lambda: desk.ask("a", SHORT, path=(0,)))
        self.assertEqual(error.path, (0,))
        full = self.desk(Level(Core(HALF, SHORT, SHORT, SHORT)))
        self.unchanged(full, InvalidCore, lambda: full.ask("a", SHORT))
        big = Task([(("",) * 4, 8), (("",) * 4, 8)], [(0, 1, 8), (1, 0, 8)])
        large = self.desk(Level(Core(ALWAYS, big, big)))
        self.assertEqual(self.unchanged(large, TooLarge, lambda: large.ask("a", big)).bound, 100000)

    def test_what_departed_tasks_leave_behind(self):
        # From the start there is room for the task, but not while its tick is owed to a job on its way.
        desk = self.desk(Level(Core(ALWAYS, Task([(("", ""), 4)], []))))
        tight = Task.plain(2, 2, 8)
        self.assertEqual(Desk(House({"a": Level(Core(ALWAYS, tight))})).secure("a").holds, True)
        desk.ask("a", Task.plain(1, 8, 8))
        desk.tick({"a": ((1, (0, 0), 0, 0), ())})
        desk.tick({"a": ((1, (-1, -1), 0, 0), ())})
        desk.leave("a", 0)
        self.assertEqual(desk.house.joint_of("a"), (((0,), ((0, 2, 0, 0),)), ()))
        level = desk.house.level_of("a")
        joint = (((0,), ((0, 2, 0, 0), NONE)), ())
        self.refused(desk, lambda: desk.ask("a", tight), level.joined((), tight), joint)


class LeaveTest(DeskCase):
    def test_a_task_that_leaves(self):
        desk = self.desk(Level(Core(ALWAYS, SHORT, LONG)))
        desk.tick({"a": ((1, (-1, 0), 1, 0), ())})
        desk.tick({"a": ((1, (-1, -1), 1, 0), ())})
        self.assertIsNone(desk.leave("a", 0))
        self.assertEqual(desk.house.level_of("a").core.tasks, (LONG,))
        self.assertEqual(desk.house.joint_of("a"), (((0,), ((0, 2, 2, 0),)), ()))
        self.assertIsNone(desk.leave("a", 0))
        self.assertEqual(desk.house.joint_of("a"), (((0,), ()), ()))

    def test_with_tasks_and_guests_behind(self):
        guest = Level(Core(Supply.share(1, 4), Task.plain(1, 8, 8)))
        level = Level(Core(ALWAYS, SHORT, Task.serving(1, 4), SHORT), {1: guest})
        desk = self.desk(level)
        desk.tick({"a": ((1, (-1, 0, 0), 1, 0), (((1, (0,), 0, 0), ()),))})
        inner = desk.house.joint_of("a")[1]
        desk.leave("a", 0)
        self.assertEqual(desk.house.level_of("a").paths, [(), (0,)])
        self.assertEqual(desk.house.joint_of("a"), (((0,), ((0, 1, 1, 0), (0, 1, 0, 0))), inner))
        desk.tick({"a": ((1, (-1, -1), 1, 0), (((0, (-1,), -1, 0), ()),))})
        self.assertEqual(desk.house.breach_ticks(), {})
        desk.leave("a", 0, path=(0,))
        self.assertEqual(desk.house.joint_of("a")[1], ((((4,), ()), ()),))

    def test_not_now(self):
        level = Level(Core(ALWAYS, SHORT, SERVER), {1: Level(Core(HALF, LONG))})
        desk = self.desk(level)
        desk.tick({"a": ((1, (0, 0), 1, 0), (((1, (0,), 0, 0), ()),))})
        for number, path in ((2, ()), (-1, ()), (5, ()), (0, ()), (1, ()), (1, (0,)), (0, (1,)), (-1, (1,)), (1, (1,))):
            if path == (0,):
                self.unchanged(desk, UnknownPath, lambda: desk.leave("a", number, path=path))
            else:
                error = self.unchanged(desk, NotNow, lambda: desk.leave("a", number, path=path))
                self.assertEqual(error.task, number)

    def test_a_server_with_a_guest_does_not_leave(self):
        desk = self.desk(Level(Core(ALWAYS, SERVER), {0: Level(Core(HALF))}))
        self.assertEqual(self.unchanged(desk, NotNow, lambda: desk.leave("a", 0)).task, 0)

    def test_a_job_that_asks_for_more_is_unfinished(self):
        desk = self.desk(Level(Core(ALWAYS, SHORT, guard="trust")))
        desk.tick({"a": ((1, (0,), 0, 1), ())})
        self.unchanged(desk, NotNow, lambda: desk.leave("a", 0))
        desk.tick({"a": ((1, (-1,), 0, 0), ())})
        self.assertIsNone(desk.leave("a", 0))

    def test_the_order_of_the_errors(self):
        desk = self.desk(Level(Core(HALF, LONG)))
        self.assertEqual(self.unchanged(desk, UnknownCore, lambda: desk.leave("b", 9, path=(3,))).name, "b")
        self.assertEqual(self.unchanged(desk, UnknownPath, lambda: desk.leave("a", 9, path=(3,))).path, (3,))
        self.unchanged(desk, NotNow, lambda: desk.leave("a", 9))

    # The tasks 0 and 2 share a lock. While it is held, task 1 is held back, as its ceiling is the level of task 0.
    LEVEL = Level(Core(
        ALWAYS, Task([(("a",), 8)], []), Task([(("b", "b"), 4)], [(0, 0, 4)]), Task([(("a", "a", "a"), 6)], [(0, 0, 8)]),
        choice=Choice("first", "ceil"),
    ))

    def test_a_task_that_leaves_and_makes_the_others_insecure(self):
        desk = self.desk(self.LEVEL)
        desk.tick({"a": ((1, (0, -1, -1), 0, 0), ())})
        self.assertTrue(self.check_secure(desk, "a"))
        joint = (((0,), (NONE, NONE)), ())
        error = self.refused(desk, lambda: desk.leave("a", 0), self.LEVEL.left((), 0), joint)
        self.assertEqual((error.path, error.task), ((), 1))
        self.assertEqual(desk.house.level_of("a"), self.LEVEL)

    def test_a_house_may_be_insecure_at_its_start_and_secure_later(self):
        self.assertFalse(self.desk(self.LEVEL).secure("a"))


class ExchangeTest(DeskCase):
    def test_parts_that_are_exchanged(self):
        desk = self.desk(Level(Core(ALWAYS, SHORT, LONG, guard="after")))
        self.assertIsNone(desk.exchange("a", choice=Choice("dues", "lend")))
        core = desk.house.level_of("a").core
        self.assertEqual((core.choice.order, core.choice.rules, core.door, core.guard), ("dues", ("lend",), "shut", "after"))
        self.assertIsNone(desk.exchange("a", door="open", guard="trust"))
        core = desk.house.level_of("a").core
        self.assertEqual((core.choice.order, core.door, core.guard), ("dues", "open", "trust"))
        self.assertEqual(core.tasks, (SHORT, LONG))
        self.assertIsNone(desk.exchange("a"))

    def test_of_a_guest_on_the_way(self):
        level = Level(Core(ALWAYS, SERVER), {0: Level(Core(HALF, Task.plain(1, 4, 4)))})
        desk = self.desk(level)
        desk.tick({"a": ((1, (0,), 0, 0), (((1, (0,), 0, 0), ()),))})
        joint = desk.house.joint_of("a")
        desk.exchange("a", path=(0,), guard="trust", choice=Choice("last"))
        self.assertEqual(desk.house.level_of("a")[(0,)].guard, "trust")
        self.assertEqual(desk.house.level_of("a").core.guard, "cut")
        self.assertEqual(desk.house.joint_of("a"), joint)
        self.assertEqual(level[(0,)].guard, "cut")

    def test_an_exchange_that_is_refused(self):
        level = Level(Core(ALWAYS, SHORT, LONG))
        desk = self.desk(level)
        changed = level.exchanged((), level.core.changed(choice=Choice("last")))
        error = self.refused(desk, lambda: desk.exchange("a", choice=Choice("last")), changed, level.start())
        self.assertEqual((error.path, error.task), ((), 0))
        self.assertEqual(desk.house.level_of("a").core.choice.order, "first")

    def test_a_level_that_is_not_secure_anyway(self):
        level = Level(Core(HALF, LONG))
        desk = self.desk(level)
        self.refused(desk, lambda: desk.exchange("a"), level, level.start())
        self.assertIsNone(Desk(House({"a": level, "b": Level(Core(ALWAYS))})).exchange("b", door="open"))

    def test_errors(self):
        desk = self.desk(Level(Core(HALF, LONG)))
        self.assertEqual(self.unchanged(desk, UnknownCore, lambda: desk.exchange("b", path=(1,), door="x")).name, "b")
        self.assertEqual(self.unchanged(desk, UnknownPath, lambda: desk.exchange("a", path=(1,), door="x")).path, (1,))
        self.unchanged(desk, InvalidCore, lambda: desk.exchange("a", door="ajar"))
        self.unchanged(desk, InvalidCore, lambda: desk.exchange("a", guard="dog"))


class TickTest(DeskCase):
    def test_a_desk_ticks_its_house(self):
        hall = Hall([[0, 1]], Taking([1]))
        desk = self.desk(Level(Core(ALWAYS, SHORT)), hall=hall)
        self.assertEqual(desk.tick({"a": ((1, (-1,), -1, 0), ())}, picks={"a": -1}), [("a", 0)])
        self.assertEqual((desk.house.clock, desk.house.position), (1, (((1, 0),), (-1,))))
        self.assertEqual(self.unchanged(desk, BadRow, lambda: desk.tick({})).index, 0)
        self.unchanged(desk, BadAct, lambda: desk.tick({"a": ((1, (-1,), -1, 0), ())}, picks={"a": 0}))

    def test_entries_stay_when_a_task_leaves(self):
        desk = self.desk(Level(Core(ALWAYS, Task.plain(1, 4, 8), Task.plain(1, 8, 8), door="open")))
        desk.tick({"a": ((1, (-1, 0), 1, 0), ())})
        desk.tick({"a": ((1, (-1, 0), 1, 0), ())})
        expected = {("a", (), "gaps1"): 1}
        self.assertEqual(desk.house.breach_ticks(), expected)
        desk.leave("a", 1)
        self.assertEqual(desk.house.breach_ticks(), expected)
        self.assertEqual(desk.ask("a", Task.plain(1, 8, 8)), 1)
        desk.tick({"a": ((1, (-1, 0), 1, 0), ())})
        desk.tick({"a": ((1, (-1, 0), 1, 0), ())})
        self.assertEqual(desk.house.breach_ticks(), expected)

    def test_the_house_itself(self):
        house = House({"a": Level(Core(ALWAYS))})
        desk, other = Desk(house), Desk(house)
        self.assertIs(desk.house, house)
        desk.ask("a", SHORT)
        self.assertEqual(other.ask("a", LONG), 1)
        self.assertEqual(len(house.level_of("a").core.tasks), 2)

    def test_unknown_names(self):
        self.assertEqual(self.unchanged(self.desk(Level(Core(ALWAYS))), UnknownCore,
                                        lambda: self.desk(Level(Core(ALWAYS))).secure("b")).name, "b")


class TrialTest(DeskCase):
    def full_desk(self):
        desk = self.desk(Level(Core(ALWAYS, SHORT)), Level(Core(ALWAYS)), hall=Hall([[0, 1], []], Taking([2])))
        desk.tick({"a": ((0, (0,), -1, 0), ()), "b": IDLE})
        return desk

    def change_all(self, desk):
        desk.tick({"a": ((1, (-1,), 0, 0), ()), "b": IDLE})
        desk.tick({"a": ((1, (-1,), -1, 0), ()), "b": IDLE})
        desk.ask("b", SHORT)
        desk.exchange("b", guard="trust")
        desk.leave("a", 0)

    def test_the_house_is_as_it_was(self):
        desk = self.full_desk()
        before = state_of(desk.house)
        with Trial(desk) as trial:
            self.assertIs(trial, desk)
            self.change_all(desk)
            self.assertNotEqual(state_of(desk.house), before)
            self.assertEqual(desk.house.clock, 3)
        self.assertEqual(state_of(desk.house), before)
        self.change_all(desk)

    def test_a_trial_that_an_error_leaves(self):
        desk = self.full_desk()
        before = state_of(desk.house)
        with self.assertRaises(ZeroDivisionError):
            with Trial(desk):
                self.change_all(desk)
                raise ZeroDivisionError
        self.assertEqual(state_of(desk.house), before)
        with self.assertRaises(NotNow):
            with Trial(desk) as trial:
                trial.tick({"a": ((1, (-1,), 0, 0), ()), "b": IDLE})
                trial.leave("a", 9)
        self.assertEqual(state_of(desk.house), before)

    def test_trials_within_trials_and_one_after_another(self):
        desk = self.full_desk()
        before = state_of(desk.house)
        outer = Trial(desk)
        with outer:
            desk.ask("b", SHORT)
            within = state_of(desk.house)
            with Trial(desk):
                desk.ask("b", LONG)
            self.assertEqual(state_of(desk.house), within)
        self.assertEqual(state_of(desk.house), before)
        desk.ask("b", LONG)
        later = state_of(desk.house)
        with outer:
            desk.leave("b", 0)
        self.assertEqual(state_of(desk.house), later)


class RehearseTest(DeskCase):
    def test_deeds_of_each_kind(self):
        level = Level(Core(ALWAYS, SHORT))
        desk = self.desk(level, Level(Core(ALWAYS)), hall=Hall([[], [0]], Taking([1])))
        before = state_of(desk.house)
        rows = {"a": ((1, (-1, -1), -1, 0), ()), "b": IDLE}
        deeds = [
            ("secure", "a"), ("ask", "a", LONG, ()), ("exchange", "a", (), None, "open", None),
            ("tick", rows, None), ("tick", rows, {"a": -1, "b": 0}), ("leave", "a", 0, ()), ("secure", "b"),
        ]
        told = rehearse(desk, deeds)
        self.assertEqual(state_of(desk.house), before)
        self.assertEqual(told[1:6], [1, None, [("a", -1), ("b", 0)], [("a", 0), ("b", -1)], None])
        self.assertEqual((told[0].holds, told[6].holds), (True, True))
        self.assertEqual(set(told[0].table), set(desk.secure("a").table))
        self.assertEqual(len(deeds), 7)
        self.assertEqual(rehearse(desk, []), [])

    def test_paths(self):
        level = Level(Core(ALWAYS, SERVER), {0: Level(Core(HALF))})
        desk = self.desk(level)
        task = Task.plain(1, 4, 4)
        told = rehearse(desk, [("ask", "a", task, (0,)), ("exchange", "a", (0,), Choice("last"), None, "trust"),
                               ("leave", "a", 0, (0,)), ("ask", "a", task, (0,))])
        self.assertEqual(told, [0, None, None, 0])
        self.assertEqual(desk.house.level_of("a"), level)

    def test_an_error_in_the_middle(self):
        level = Level(Core(ALWAYS, SHORT, LONG))
        desk = self.desk(level)
        rows = {"a": ((1, (0, 0), 0, 0), ())}
        joint = level.play([rows["a"]])[-1]
        joint = ((joint[0][0], joint[0][1] + (NONE,)), joint[1])
        self.refused(desk, lambda: rehearse(desk, [("tick", rows, None), ("ask", "a", SHORT, ()), ("secure", "z")]),
                     level.joined((), SHORT), joint)
        for deed, kind in (
            (("leave", "a", 0, ()), None), (("leave", "a", 1, ()), NotNow), (("tick", {}, None), BadRow),
            (("secure", "z"), UnknownCore), (("exchange", "a", (0,), None, None, None), UnknownPath),
            (("exchange", "a", (), None, "x", None), InvalidCore),
        ):
            if kind is not None:
                self.unchanged(desk, kind, lambda: rehearse(desk, [("tick", rows, None), deed, ("secure", "a")]))


class DrawnTest(DeskCase):
    def test_drawn_deeds(self):
        told = {}
        for seed in range(70):
            draw = random.Random(seed)
            level = drawn_level(seed, 20)
            desk = self.desk(level)
            for _ in range(4):
                level, joint = desk.house.level_of("a"), desk.house.joint_of("a")
                path = draw.choice(level.paths)
                states, statuses = level.part(joint, path)
                kind = draw.choice(("ask", "leave", "exchange", "tick"))
                if kind == "tick" or (kind == "leave" and not statuses):
                    desk.tick({"a": draw.choice(list(level.joint_options(joint, level.parties)))})
                    continue
                if kind == "ask":
                    task = Task.plain(1, draw.randint(1, 4), 4)
                    if len(statuses) == 3:
                        continue
                    changed, part = level.joined(path, task), (states, statuses + (NONE,))
                    deed, expected = lambda: desk.ask("a", task, path=path), len(statuses)
                elif kind == "leave":
                    number = draw.randrange(len(statuses))
                    part = (states, statuses[:number] + statuses[number + 1:])
                    deed, expected = lambda: desk.leave("a", number, path=path), None
                    here = level
                    for step in path:
                        here = here.guests[step]
                    if number in here.guests or model.unfinished(level[path].tasks[number], statuses[number]):
                        self.assertEqual(self.unchanged(desk, NotNow, deed).task, number)
                        continue
                    changed = level.left(path, number)
                else:
                    choice = Choice(draw.choice(("first", "last", "dues")))
                    changed, part = level.exchanged(path, level[path].changed(choice=choice)), (states, statuses)
                    deed, expected = lambda: desk.exchange("a", path=path, choice=choice), None
                parts = joints_model.flat(level, joint)
                parts[path] = part
                if kind == "leave":
                    moved = {}
                    for other, one in parts.items():
                        at = len(path)
                        if other[:at] == path and len(other) > at and other[at] > number:
                            other = path + (other[at] - 1,) + other[at + 1:]
                        moved[other] = one
                    parts = moved
                later = joints_model.woven(changed, parts)
                if searched(changed, later)[1] is None:
                    self.assertEqual(deed(), expected)
                    self.assertEqual(desk.house.joint_of("a"), later)
                    self.assertEqual(desk.house.level_of("a").paths, changed.paths)
                    told[(kind, True)] = told.get((kind, True), 0) + 1
                else:
                    self.refused(desk, deed, changed, later)
                    told[(kind, False)] = told.get((kind, False), 0) + 1
        self.assertEqual(len(told), 6)


if __name__ == "__main__":
    unittest.main()

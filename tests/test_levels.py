"""Points 36 and 37, and what point 2 says of levels."""

import random
import unittest

import joints_model
from firstbreach.choices import Choice
from firstbreach.cores import Core
from firstbreach.errors import BadRow, InvalidCore, InvalidLevel, TooLarge, UnknownParty, UnknownPath
from firstbreach.levels import Level, lifted
from firstbreach.supplies import Supply
from firstbreach.tasks import NONE, Task
from joints_model import drawn_joint_run, drawn_level

ALWAYS = Supply.always()
HALF = Supply.share(1, 2)
SERVER = Task.serving(1, 2)
PLAIN = Task.plain(1, 2, 3)

# A core alone; a host whose task 1 has a guest; a host with two guests; a guest in a guest.
ALONE = Level(Core(ALWAYS, PLAIN))
GUEST = Level(Core(HALF, PLAIN))
HOST = Level(Core(ALWAYS, PLAIN, SERVER), {1: GUEST})
TWO = Level(Core(ALWAYS, SERVER, PLAIN, SERVER), {2: Level(Core(HALF)), 0: GUEST})
DEEP = Level(Core(ALWAYS, SERVER), {0: Level(Core(HALF, Task.serving(1, 4)), {0: Level(Core(Supply.share(1, 4), PLAIN))})})


class LevelTest(unittest.TestCase):
    def test_attributes(self):
        core = HOST.core
        self.assertEqual(list(HOST.guests), [1])
        self.assertIs(HOST.guests[1], GUEST)
        self.assertEqual(list(TWO.guests), [0, 2])
        self.assertEqual(ALONE.guests, {})
        self.assertEqual(Level(core, {}).guests, {})
        self.assertIs(Level(core).core, core)

    def test_paths(self):
        for level, paths in (
            (ALONE, [()]), (HOST, [(), (1,)]), (TWO, [(), (0,), (2,)]), (DEEP, [(), (0,), (0, 0)]),
        ):
            self.assertEqual(level.paths, paths)
            self.assertEqual(list(level), paths)
            self.assertEqual([path for path in level], paths)
            for path in paths:
                self.assertIn(path, level)
            for path in ((3,), (0, 1), (0, 0, 0), (1, 1), (-1,)):
                self.assertNotIn(path, level)
        self.assertNotIn((1,), TWO)
        self.assertNotIn((1,), DEEP)

    def test_parties(self):
        self.assertEqual(ALONE.parties, [((), party) for party in ("choice", "gaps0", "needs0", "supply")])
        top = ("choice", "gaps0", "gaps1", "needs0", "needs1", "supply")
        expected = [((), party) for party in top] + [((1,), party) for party in ("choice", "gaps0", "needs0")]
        self.assertEqual(HOST.parties, expected)
        for level in (ALONE, HOST, TWO, DEEP):
            self.assertIs(type(level.parties), list)
            self.assertEqual(level.parties, sorted(level.parties))
            every = {(path, party) for path in level for party in level[path].parties}
            self.assertEqual(every - set(level.parties), {(path, "supply") for path in level if path})

    def test_the_core_of_a_path(self):
        self.assertIs(HOST[()], HOST.core)
        self.assertIs(HOST[(1,)], GUEST.core)
        self.assertIs(DEEP[(0, 0)], DEEP.guests[0].guests[0].core)
        self.assertIs(TWO[(2,)], TWO.guests[2].core)

    def test_unknown_paths(self):
        for level, path in ((ALONE, (0,)), (HOST, (0,)), (HOST, (1, 0)), (TWO, (1,)), (DEEP, (0, 0, 0)), (DEEP, (-1,))):
            for call in (
                lambda: level[path],
                lambda: level.part(level.start(), path),
                lambda: level.joined(path, PLAIN),
                lambda: level.left(path, 0),
                lambda: level.exchanged(path, ALONE.core),
            ):
                with self.assertRaises(UnknownPath) as caught:
                    call()
                self.assertEqual(caught.exception.path, path)

    def test_a_dict_that_is_passed_is_copied(self):
        guests = {1: GUEST}
        level = Level(HOST.core, guests)
        guests[0] = GUEST
        del guests[1]
        self.assertEqual(list(level.guests), [1])
        self.assertEqual(level.paths, [(), (1,)])

    def test_two_guests_may_be_alike(self):
        level = Level(Core(ALWAYS, SERVER, SERVER), {0: GUEST, 1: GUEST})
        self.assertEqual(level.paths, [(), (0,), (1,)])


class InvalidTest(unittest.TestCase):
    def wrong(self, core, guests):
        with self.assertRaises(InvalidLevel):
            Level(core, guests)

    def test_four_cores(self):
        core = Core(ALWAYS, SERVER, SERVER, SERVER)
        three = {0: GUEST, 1: GUEST}
        self.assertEqual(len(Level(core, three).paths), 3)
        self.wrong(core, {0: GUEST, 1: GUEST, 2: GUEST})
        inner = Level(Core(HALF, SERVER), {0: Level(Core(HALF))})
        self.assertEqual(len(Level(core, {1: inner}).paths), 3)
        self.wrong(core, {0: GUEST, 1: inner})
        self.wrong(core, {0: inner, 1: inner})

    def test_a_path_of_three_numbers(self):
        level = Level(Core(HALF))
        for _ in range(2):
            level = Level(Core(HALF, SERVER), {0: level})
        self.assertEqual(level.paths, [(), (0,), (0, 0)])
        self.wrong(Core(HALF, SERVER), {0: level})

    def test_a_number_that_is_not_that_of_a_server(self):
        for number in (0, 2, 3, -1, 100):
            self.wrong(HOST.core, {number: GUEST})
            self.wrong(HOST.core, {number: GUEST, 1: GUEST})
        for task in (
            Task([(("",), 2)], [(0, 0, 2)]),
            Task([(("",), 1)], [(0, 0, 2)], steady=True),
            Task([(("a",), 2)], [(0, 0, 2)], steady=True),
        ):
            self.wrong(Core(ALWAYS, task), {0: GUEST})
        self.wrong(Core(ALWAYS), {0: GUEST})

    def test_the_share_is_within_the_supply_of_the_guest(self):
        for server, supply, right in (
            (SERVER, HALF, True),
            (SERVER, Supply.share(1, 4), True),
            (SERVER, Supply.share(2, 4), True),
            (SERVER, Supply.share(0, 1), True),
            (SERVER, ALWAYS, False),
            (SERVER, Supply.share(1, 1), False),
            (SERVER, Supply.share(2, 3), False),
            (SERVER, Supply.share(3, 4), False),
            (Task.serving(2, 4), HALF, False),
            (Task.serving(2, 4), Supply.share(1, 4), True),
            (Task.serving(1, 1), ALWAYS, True),
            (Task.serving(4, 8), Supply.share(4, 8), True),
            (Task.serving(4, 8), Supply.share(1, 2), False),
        ):
            core = Core(ALWAYS, server)
            if right:
                self.assertEqual(Level(core, {0: Level(Core(supply))}).paths, [(), (0,)])
            else:
                self.wrong(core, {0: Level(Core(supply))})

    def test_the_supply_of_the_host_does_not_matter(self):
        self.assertEqual(Level(Core(Supply.share(1, 8), SERVER), {0: GUEST}).paths, [(), (0,)])


class PossibleTest(unittest.TestCase):
    START = HOST.start()
    RUNS = (1, (-1, 0), 1, 0)
    RESTS = (1, (-1, 0), -1, 0)
    LENT = ((1, (0,), 0, 0), ())
    IDLE = ((1, (0,), -1, 0), ())
    KEPT_BACK = ((0, (-1,), -1, 0), ())

    def test_the_start(self):
        self.assertEqual(ALONE.start(), (((0,), (NONE,)), ()))
        self.assertEqual(self.START, (((0,), (NONE, NONE)), ((((0,), (NONE,)), ()),)))
        inner = (((0,), (NONE,)), ((((0,), (NONE,)), ()),))
        self.assertEqual(DEEP.start(), (((0,), (NONE,)), (inner,)))

    def test_the_bit_of_a_guest(self):
        after = HOST.after(self.START, (self.RUNS, (self.LENT,)))
        self.assertEqual(after, (((0,), (NONE, (0, 1, 1, 0))), ((((2,), ((0, 1, 1, 0),)), ()),)))
        HOST.after(self.START, (self.RUNS, (self.IDLE,)))
        HOST.after(self.START, (self.RESTS, (self.KEPT_BACK,)))
        self.bad((self.RUNS, (self.KEPT_BACK,)))
        self.bad((self.RESTS, (self.LENT,)))
        self.bad((self.RESTS, (self.IDLE,)))
        self.bad(((0, (-1, 0), -1, 0), (self.IDLE,)))
        # The other task of the host runs.
        self.bad(((1, (0, 0), 0, 0), (self.LENT,)))
        HOST.after(self.START, ((1, (0, 0), 0, 0), (self.KEPT_BACK,)))

    def test_the_number_of_guests(self):
        self.bad((self.RUNS, ()))
        self.bad((self.RUNS, (self.LENT, self.LENT)))
        self.bad((self.RUNS, (self.LENT, self.KEPT_BACK)))
        self.bad((self.RUNS, ((self.LENT[0], (self.LENT,)),)))

    def test_each_row_is_possible_for_its_core(self):
        self.bad(((1, (-1, -1), 1, 0), (self.LENT,)))
        self.bad(((1, (-1,), -1, 0), (self.KEPT_BACK,)))
        self.bad((self.RUNS, (((1, (-1,), 0, 0), ()),)))
        self.bad((self.RUNS, (((1, (0, 0), 0, 0), ()),)))
        self.bad((self.RUNS, (((1, (1,), 0, 0), ()),)))
        self.bad((self.RUNS, (((2, (0,), 0, 0), ()),)))
        self.bad(((2, (-1, 0), 1, 0), (self.LENT,)))

    def bad(self, row):
        for call in (HOST.after, HOST.breaches):
            with self.assertRaises(BadRow) as caught:
                call(self.START, row)
            self.assertEqual(caught.exception.index, 0)
        with self.assertRaises(BadRow) as caught:
            HOST.play([(self.RUNS, (self.LENT,)), (self.RESTS, (self.KEPT_BACK,))] + [row])
        self.assertEqual(caught.exception.index, 2)

    def test_play(self):
        rows = [(self.RUNS, (self.LENT,)), ((0, (0, -1), -1, 0), (self.KEPT_BACK,))]
        joints = HOST.play(rows)
        self.assertEqual(joints[0], HOST.after(self.START, rows[0]))
        self.assertEqual(joints[1], HOST.after(joints[0], rows[1]))
        self.assertEqual(HOST.play(rows[1:], start=joints[0]), joints[1:])
        self.assertEqual(HOST.play([]), [])
        self.assertEqual(HOST.play([], start=joints[0]), [])
        with self.assertRaises(BadRow) as caught:
            HOST.play([rows[1], rows[1], (self.RUNS, (self.KEPT_BACK,)), (self.RUNS, ())], start=joints[0])
        self.assertEqual(caught.exception.index, 2)

    def test_lists_may_stand_for_tuples(self):
        row = ((1, [-1, 0], 1, 0), [((1, [0], 0, 0), [])])
        expected = HOST.after(self.START, (self.RUNS, (self.LENT,)))
        start = (([0], [NONE, NONE]), [(([0], [NONE]), [])])
        self.assertEqual(HOST.after(self.START, row), expected)
        self.assertEqual(HOST.play([row], start=start), [expected])
        self.assertEqual(HOST.play((row,)), [expected])

    def test_lent_ticks_that_are_no_word_of_the_supply(self):
        joint = self.START
        row = (self.RESTS, (self.KEPT_BACK,))
        joint = HOST.after(joint, row)
        self.assertEqual(HOST.part(joint, (1,)), ((1,), (NONE,)))
        row = ((1, (-1, -1), -1, 0), (self.KEPT_BACK,))
        self.assertEqual(HOST.breaches(joint, row), [((), "choice"), ((1,), "supply")])
        joint = HOST.after(joint, row)
        self.assertEqual(HOST.part(joint, (1,)), ((), (NONE,)))
        row = (((1, (-1, 0), -1, 0)), (self.KEPT_BACK,))
        self.assertEqual(HOST.breaches(joint, row), [((), "choice")])
        self.assertNotIn(((1,), "supply"), HOST.parties)

    def test_breaches_of_all_cores(self):
        row = ((1, (-1, -1), -1, 0), (((0, (-1,), -1, 0), ()),))
        self.assertEqual(HOST.breaches(self.START, row), [((), "gaps1")])
        row = ((1, (0, 0), 1, 1), (((1, (0,), -1, 0), ()),))
        self.assertEqual(HOST.breaches(self.START, row), [((), "choice"), ((), "needs1"), ((1,), "choice")])
        row = ((0, (-1, 0), -1, 0), (((0, (-1,), -1, 0), ()),))
        self.assertEqual(HOST.breaches(self.START, row), [((), "supply")])


class PartTest(unittest.TestCase):
    def test_standings_and_rows(self):
        rows, joints = drawn_joint_run(DEEP, 3, 5)
        for joint in joints + rows:
            self.assertEqual(DEEP.part(joint, ()), joint[0])
            self.assertEqual(DEEP.part(joint, (0,)), joint[1][0][0])
            self.assertEqual(DEEP.part(joint, (0, 0)), joint[1][0][1][0][0])

    def test_a_guest_of_another_number_in_a_guest(self):
        inner = Level(Core(HALF, PLAIN, Task.serving(1, 4)), {1: Level(Core(Supply.share(1, 4), PLAIN))})
        level = Level(Core(ALWAYS, PLAIN, PLAIN, SERVER), {2: inner})
        rows, joints = drawn_joint_run(level, 4, 4)
        for joint in joints + rows:
            self.assertEqual(level.part(joint, (2, 1)), joint[1][0][1][0][0])

    def test_two_guests(self):
        rows, joints = drawn_joint_run(TWO, 5, 4)
        for joint in joints + rows:
            self.assertEqual(TWO.part(joint, (0,)), joint[1][0][0])
            self.assertEqual(TWO.part(joint, (2,)), joint[1][1][0])


class OptionsTest(unittest.TestCase):
    def test_every_option_once_and_ascending(self):
        for level in (ALONE, HOST, TWO, DEEP):
            rows, joints = drawn_joint_run(level, 1, 4)
            for joint in [level.start()] + joints:
                for kept in ([], level.parties, level.parties[::2], level.parties[1::3]):
                    expected = joints_model.options(level, joint, kept)
                    self.assertEqual(list(level.joint_options(joint, kept)), expected)

    def test_the_states_of_a_guest_bind_no_one(self):
        start = (((0,), (NONE, (0, 1, 1, 0))), ((((1,), (NONE,)), ()),))
        for row in HOST.joint_options(start, HOST.parties):
            self.assertEqual(HOST.breaches(start, row), [((1,), "supply")])
        self.assertTrue(list(HOST.joint_options(start, HOST.parties)))

    def test_unknown_parties(self):
        for kept, pair in (
            ([((1,), "supply")], ((1,), "supply")),
            ([((), "choice"), ((), "gaps2"), ((2,), "choice")], ((), "gaps2")),
            ([((0,), "choice")], ((0,), "choice")),
            ([((1,), "gaps1"), ((1,), "supply")], ((1,), "gaps1")),
        ):
            with self.assertRaises(UnknownParty) as caught:
                list(HOST.joint_options(HOST.start(), kept))
            self.assertEqual(caught.exception.party, pair)

    def test_a_pair_listed_twice_counts_once(self):
        kept = [((), "choice"), ((1,), "choice")]
        once = list(HOST.joint_options(HOST.start(), kept))
        self.assertEqual(list(HOST.joint_options(HOST.start(), tuple(kept + kept))), once)


class JoinedTest(unittest.TestCase):
    def test_joined(self):
        for level, path in ((ALONE, ()), (HOST, (1,)), (DEEP, (0,)), (DEEP, (0, 0)), (HOST, ())):
            before = [level[one].tasks for one in level]
            other = Task.plain(1, 4, 5)
            level_after = level.joined(path, other)
            self.assertEqual(level_after.paths, level.paths)
            for one in level:
                expected = level[one].tasks + ((other,) if one == path else ())
                self.assertEqual(level_after[one].tasks, expected)
                self.assertIs(level_after[one].supply, level[one].supply)
            self.assertEqual([level[one].tasks for one in level], before)

    def test_joined_keeps_choice_door_and_guard(self):
        core = Core(HALF, choice=Choice("dues", "lend"), door="open", guard="trust")
        level = Level(HOST.core, {1: Level(core)}).joined((1,), PLAIN)
        core = level[(1,)]
        self.assertEqual((core.choice.order, core.choice.rules, core.door, core.guard), ("dues", ("lend",), "open", "trust"))

    def test_errors_of_the_core(self):
        with self.assertRaises(InvalidCore):
            TWO.joined((), PLAIN)
        big = Task([(("",) * 4, 8), (("",) * 4, 8)], [(0, 1, 8), (1, 0, 8)])
        self.assertEqual(Core(ALWAYS, big).weight, 109)
        level = Level(Core(ALWAYS, big, big))
        with self.assertRaises(TooLarge) as caught:
            level.joined((), big)
        self.assertEqual(caught.exception.bound, 100000)
        with self.assertRaises(UnknownPath):
            TWO.joined((1,), PLAIN)

    def test_left(self):
        level = TWO.left((), 1)
        self.assertEqual(level.core.tasks, (SERVER, SERVER))
        self.assertEqual(level.paths, [(), (0,), (1,)])
        self.assertIs(level[(0,)], TWO[(0,)])
        self.assertIs(level[(1,)], TWO[(2,)])
        self.assertEqual(TWO.paths, [(), (0,), (2,)])
        level = HOST.left((), 0)
        self.assertEqual((level.core.tasks, list(level.guests)), ((SERVER,), [0]))
        self.assertIs(level[(0,)], GUEST.core)
        level = HOST.left((1,), 0)
        self.assertEqual((level[(1,)].tasks, level.paths), ((), [(), (1,)]))
        self.assertEqual(ALONE.left((), 0).core.tasks, ())

    def test_left_behind_a_guest(self):
        level = Level(Core(ALWAYS, SERVER, PLAIN, Task.plain(1, 3, 3)), {0: GUEST})
        self.assertEqual(level.left((), 1).core.tasks, (SERVER, level.core.tasks[2]))
        self.assertEqual(level.left((), 2).paths, [(), (0,)])

    def test_left_in_a_host_that_is_a_guest(self):
        inner = Level(Core(HALF, PLAIN, Task.serving(1, 4)), {1: Level(Core(Supply.share(1, 4)))})
        level = Level(Core(ALWAYS, SERVER), {0: inner})
        self.assertEqual(level.paths, [(), (0,), (0, 1)])
        self.assertEqual(level.left((0,), 0).paths, [(), (0,), (0, 0)])

    def test_exchanged(self):
        core = Core(ALWAYS, SERVER, SERVER)
        level = HOST.exchanged((), core)
        self.assertIs(level.core, core)
        self.assertIs(level[(1,)], GUEST.core)
        self.assertIs(HOST.core.tasks[0], PLAIN)
        core = Core(Supply.share(1, 3))
        level = HOST.exchanged((1,), core)
        self.assertIs(level[(1,)], core)
        self.assertIs(HOST[(1,)], GUEST.core)
        level = DEEP.exchanged((0,), Core(HALF, Task.serving(2, 8)).changed(supply=Supply.share(0, 1), tasks=[SERVER]))
        self.assertEqual(level.paths, [(), (0,), (0, 0)])

    def test_exchanged_that_breaks_a_rule(self):
        for level, path, core in (
            (HOST, (), Core(ALWAYS, SERVER)),
            (HOST, (), Core(ALWAYS, SERVER, PLAIN)),
            (HOST, (), Core(ALWAYS, PLAIN, Task.serving(1, 3))),
            (HOST, (1,), Core(ALWAYS)),
            (HOST, (1,), Core(Supply.share(2, 3))),
            (DEEP, (0,), Core(HALF)),
            (DEEP, (0,), Core(ALWAYS, SERVER)),
            (DEEP, (0, 0), Core(Supply.share(2, 4))),
        ):
            with self.assertRaises(InvalidLevel):
                level.exchanged(path, core)
        with self.assertRaises(UnknownPath):
            HOST.exchanged((0,), Core(ALWAYS))


class LiftedTest(unittest.TestCase):
    def test_lifted(self):
        rows = [(1, (0,), 0, 0), (0, (-1,), -1, 0)]
        self.assertEqual(lifted(rows), [((1, (0,), 0, 0), ()), ((0, (-1,), -1, 0), ())])
        self.assertEqual(lifted([]), [])
        self.assertEqual(rows, [(1, (0,), 0, 0), (0, (-1,), -1, 0)])
        self.assertEqual([joint[0] for joint in ALONE.play(lifted(rows))], ALONE.core.play(rows))


class DrawnTest(unittest.TestCase):
    def test_drawn_levels(self):
        for seed in range(80):
            level = drawn_level(seed)
            rows, joints = drawn_joint_run(level, seed, 7)
            self.assertEqual(level.play(rows), joints)
            draw = random.Random(seed)
            joint = level.start()
            for row, after in zip(rows, joints):
                self.assertTrue(joints_model.possible(level, joint, row))
                self.assertEqual(joints_model.step(level, joint, row), after)
                self.assertEqual(level.breaches(joint, row), joints_model.breaches(level, joint, row))
                kept = draw.sample(level.parties, draw.randint(0, len(level.parties)))
                options = list(level.joint_options(joint, kept))
                if len(options) < 500:
                    self.assertEqual(options, joints_model.options(level, joint, kept))
                joint = after


if __name__ == "__main__":
    unittest.main()

"""Point 44, and what point 2 says of replays."""

import random
import unittest

import joints_model
from firstbreach.cores import Core
from firstbreach.errors import BadRow, InvalidPromise, UnknownPath
from firstbreach.judging import breaks_at, judge
from firstbreach.levels import Level, lifted
from firstbreach.promises import Due, Fed, Free, Spare
from firstbreach.replay import Replay
from firstbreach.rests import least_sets
from firstbreach.supplies import Supply
from firstbreach.tasks import NONE, Task
from joints_model import drawn_joint_run, drawn_level
from samples import drawn_core, drawn_run

ALWAYS = Supply.always()
HALF = Supply.share(1, 2)
SERVER = Task.serving(1, 2)
PLAIN = Task.plain(1, 2, 3)
LEVEL = Level(Core(ALWAYS, SERVER, PLAIN), {0: Level(Core(HALF, PLAIN))})

# The server runs; nothing runs; both the supply and the gaps of the server make a breach.
RUNS = ((1, (0, -1), 0, 0), (((1, (0,), 0, 0), ()),))
RESTS = ((1, (-1, -1), -1, 0), (((0, (-1,), -1, 0), ()),))
LATER = ((1, (0, -1), 0, 0), (((1, (-1,), -1, 0), ()),))
BREAKS = ((0, (-1, 0), -1, 0), (((0, (0,), -1, 0), ()),))


class ReplayTest(unittest.TestCase):
    def test_attributes(self):
        rows = [RUNS, RESTS, LATER]
        replay = Replay(LEVEL, rows)
        self.assertIs(replay.level, LEVEL)
        self.assertEqual(replay.rows, rows)
        self.assertEqual(replay.joints, LEVEL.play(rows))
        self.assertEqual(replay.breach_rows, {})
        self.assertIsNone(replay.first)
        rows.append(RESTS)
        self.assertEqual(len(replay.rows), 3)

    def test_a_run_without_rows(self):
        on_the_way = LEVEL.play([RUNS])[-1]
        for start in (None, LEVEL.start(), on_the_way):
            replay = Replay(LEVEL, [], start=start)
            self.assertEqual((replay.rows, replay.joints, replay.breach_rows, replay.first), ([], [], {}, None))
            self.assertIsNone(replay.broken((0,), Due(0)))
            self.assertIsNone(replay.account((0,), Due(0), [("choice",)]))
            self.assertEqual(replay.rows_of((0,)), [])

    def test_several_first_breaches_in_one_row(self):
        replay = Replay(LEVEL, [RESTS, BREAKS])
        expected = {((), "gaps0"): 0, ((), "supply"): 1, ((0,), "supply"): 1}
        self.assertEqual(replay.breach_rows, expected)
        self.assertEqual(list(replay.breach_rows), list(expected))
        self.assertEqual(replay.first, (0, ((), "gaps0")))
        replay = Replay(LEVEL, [RUNS, BREAKS])
        self.assertEqual(replay.first, (1, ((), "supply")))
        # The gaps of the guest's task: its job comes one tick too early.
        self.assertEqual(list(replay.breach_rows.items()), [(((), "supply"), 1), (((0,), "gaps0"), 1)])

    def test_only_the_first_row_of_each_counts(self):
        row = ((1, (0, -1), -1, 0), (((0, (-1,), -1, 0), ()),))
        replay = Replay(LEVEL, [row] * 4)
        self.assertEqual(replay.breach_rows, {((), "choice"): 0, ((), "gaps0"): 1, ((0,), "supply"): 1})
        self.assertEqual(list(replay.breach_rows), [((), "choice"), ((), "gaps0"), ((0,), "supply")])

    def test_from_a_joint_standing_on_the_way(self):
        joint = LEVEL.play([RESTS])[-1]
        replay = Replay(LEVEL, [RESTS, RESTS], start=joint)
        self.assertEqual(replay.joints, LEVEL.play([RESTS] * 3)[1:])
        self.assertEqual(replay.breach_rows, {((), "gaps0"): 0, ((0,), "supply"): 0})
        late = (((0,), (NONE, NONE)), ((((0,), ((0, 1, 0, 0),)), ()),))
        replay = Replay(LEVEL, [RESTS, RESTS], start=late)
        self.assertEqual(replay.broken((0,), Due(0)), 0)
        self.assertIsNone(replay.broken((), Due(0)))

    def test_lists_may_stand_for_tuples(self):
        start = (([0], [NONE, NONE]), [(([0], [NONE]), [])])
        rows = (((1, [0, -1], 0, 0), [((1, [0], 0, 0), [])]), RESTS)
        replay = Replay(LEVEL, rows, start=start)
        self.assertEqual(replay.joints, LEVEL.play([RUNS, RESTS]))
        self.assertEqual(replay.rows, [RUNS, RESTS])
        self.assertEqual(replay.account([0], Due(0), [["choice"]]), None)

    def test_bad_rows(self):
        bad = ((1, (0, -1), 0, 0), (((0, (0,), -1, 0), ()),))
        for index in range(3):
            with self.assertRaises(BadRow) as caught:
                Replay(LEVEL, [RUNS, RESTS][:index] + [bad, RUNS, bad])
            self.assertEqual(caught.exception.index, index)
        again = ((1, (-1, -1), 0, 0), (((1, (-1,), -1, 0), ()),))
        self.assertEqual(len(Replay(LEVEL, [((1, (0, -1), -1, 0), BREAKS[1]), again]).joints), 2)
        with self.assertRaises(BadRow) as caught:
            Replay(LEVEL, [again], start=LEVEL.play([RUNS])[-1])
        self.assertEqual(caught.exception.index, 0)

    def test_rows_of(self):
        replay = Replay(LEVEL, [RUNS, RESTS])
        self.assertEqual(replay.rows_of(()), [RUNS[0], RESTS[0]])
        self.assertEqual(replay.rows_of((0,)), [RUNS[1][0][0], RESTS[1][0][0]])
        replay.rows_of(()).clear()
        self.assertEqual(len(replay.rows_of(())), 2)
        for one in (replay, Replay(LEVEL, [])):
            for path in ((1,), (0, 0)):
                with self.assertRaises(UnknownPath) as caught:
                    one.rows_of(path)
                self.assertEqual(caught.exception.path, path)


class BrokenTest(unittest.TestCase):
    IDLE = ((1, (0, 0), -1, 0), (((0, (0,), -1, 0), ()),))

    def test_broken(self):
        replay = Replay(LEVEL, [self.IDLE] + [RESTS] * 3)
        self.assertEqual(replay.broken((), Due(0)), 1)
        self.assertEqual(replay.broken((), Due(1)), 1)
        self.assertEqual(replay.broken((), Due(1, late=1)), 2)
        self.assertEqual(replay.broken((0,), Due(0)), 1)
        self.assertEqual(replay.broken((0,), Due(0, late=1)), 2)
        self.assertEqual(replay.broken((), Fed(0)), 1)
        self.assertIsNone(replay.broken((), Spare(1, 4)))
        self.assertEqual(replay.broken((0,), Spare(1, 3)), 2)
        self.assertIsNone(replay.broken((0,), Free()))
        self.assertIsNone(Replay(LEVEL, [RUNS, RESTS]).broken((0,), Due(0)))

    def test_errors(self):
        for rows in ([self.IDLE], []):
            replay = Replay(LEVEL, rows)
            for call in (replay.broken, lambda path, promise: replay.account(path, promise, [])):
                with self.assertRaises(UnknownPath) as caught:
                    call((1,), Due(7))
                self.assertEqual(caught.exception.path, (1,))
                for promise in (Due(1), Due(0, late=2), Fed(0), Spare(1, 9)):
                    with self.assertRaises(InvalidPromise):
                        call((0,), promise)

    def test_drawn_runs(self):
        for seed in range(80):
            level = drawn_level(seed)
            rows, joints = drawn_joint_run(level, seed, 9)
            cut = seed % 4
            starts = [level.start()] + joints
            replay = Replay(level, rows[cut:], start=starts[cut])
            for path in level:
                core = level[path]
                own = [level.part(row, path) for row in rows[cut:]]
                for promise in [Free(), Spare(1, 3)] + [Due(number) for number in range(len(core.tasks))]:
                    told = breaks_at(core, promise, own, start=level.part(starts[cut], path))
                    self.assertEqual(replay.broken(path, promise), told)


class AccountTest(unittest.TestCase):
    # The supply keeps back two ticks, and then the choice lets nothing run.
    CORE = Core(HALF, Task.plain(1, 3, 5), guard="trust")
    ROWS = lifted([(0, (0,), -1, 0), (1, (-1,), -1, 0), (0, (-1,), -1, 0), (0, (-1,), -1, 0), (1, (0,), 0, 1)])

    def test_the_first_breach_of_each_set(self):
        replay = Replay(Level(self.CORE), self.ROWS)
        self.assertEqual(replay.broken((), Due(0)), 2)
        expected = {((), "choice"): 1, ((), "supply"): 3, ((), "gaps0"): 4, ((), "needs0"): 4}
        self.assertEqual(replay.breach_rows, expected)
        self.assertEqual(list(replay.breach_rows), sorted(expected, key=lambda pair: (expected[pair], pair)))
        sets = [("choice",), ("supply",), ("choice", "supply"), ("needs0", "gaps0"), (), ("supply", "gaps0", "choice")]
        told = replay.account((), Due(0), sets)
        self.assertEqual(told, [(1, "choice"), None, (1, "choice"), None, None, (1, "choice")])
        self.assertEqual(replay.account((), Due(0), []), [])

    def test_of_several_in_one_row_the_least_party(self):
        core = Core(ALWAYS, Task.plain(1, 1, 2), Task.plain(1, 1, 2), guard="trust", door="open")
        rows = lifted([(1, (0, 0), 1, 1), (1, (0, 0), 1, 1)])
        replay = Replay(Level(core), rows)
        self.assertEqual(replay.broken((), Due(0)), 0)
        self.assertEqual(replay.account((), Due(0), [("needs1", "choice"), ("needs1",)]), [(0, "choice"), (0, "needs1")])
        rows = lifted([(1, (0, -1), 0, 0), (1, (0, 0), 1, 1)])
        replay = Replay(Level(core), rows)
        told = replay.account((), Due(0), [("needs1", "gaps0"), ("needs1", "choice", "gaps0"), ("supply",)])
        self.assertEqual(told, [(1, "gaps0"), (1, "choice"), None])

    def test_the_row_that_breaks_the_promise_counts(self):
        replay = Replay(Level(Core(ALWAYS, Task.plain(1, 1, 2))), lifted([(0, (0,), -1, 0)]))
        self.assertEqual(replay.account((), Due(0), [("supply",), ("choice",)]), [(0, "supply"), None])

    def test_parties_of_a_guest(self):
        idle = ((1, (0, 0), -1, 0), (((0, (0,), -1, 0), ()),))
        replay = Replay(LEVEL, [idle, RESTS])
        told = replay.account((0,), Due(0), [("supply",), ("choice", "supply"), ("choice",)])
        self.assertEqual(told, [(1, "supply"), (1, "supply"), None])
        self.assertEqual(replay.account((), Fed(0), [("supply",), ("choice", "gaps0")]), [None, (0, "choice")])

    def test_a_promise_that_does_not_break(self):
        self.assertIsNone(Replay(LEVEL, [RUNS]).account((0,), Due(0), [("choice",)]))

    def test_from_on_the_way_nobody_may_be_found(self):
        late = (((0,), ((0, 3, 0, 0),)), ())
        replay = Replay(Level(self.CORE), lifted([(0, (-1,), -1, 0)]), start=late)
        self.assertEqual(replay.account((), Due(0), [self.CORE.parties]), [None])

    def test_sets_that_are_enough_have_an_entry(self):
        broken = 0
        for seed in range(150):
            core = drawn_core(seed, most_tasks=2, most_weight=400)
            rows, _ = drawn_run(core, seed, 10)
            for number in range(len(core.tasks)):
                replay = Replay(Level(core), lifted(rows))
                sets = least_sets(core, Due(number))
                told = replay.account((), Due(number), sets)
                if told is not None:
                    broken += len(sets)
                    self.assertNotIn(None, told)
                    for parties, (index, party) in zip(sets, told):
                        self.assertIn(party, parties)
                        self.assertEqual(replay.breach_rows[((), party)], index)
        self.assertGreater(broken, 10)


class DrawnTest(unittest.TestCase):
    def test_breaches_of_drawn_runs(self):
        for seed in range(100):
            level = drawn_level(seed)
            draw = random.Random(seed)
            kept = draw.sample(level.parties, draw.randint(0, len(level.parties)))
            rows, joints = drawn_joint_run(level, seed, 8, kept)
            found = {}
            for index, (joint, row) in enumerate(zip([level.start()] + joints, rows)):
                for pair in joints_model.breaches(level, joint, row):
                    found.setdefault(pair, index)
            replay = Replay(level, rows)
            order = sorted(found, key=lambda pair: (found[pair], pair))
            self.assertEqual(list(replay.breach_rows.items()), [(pair, found[pair]) for pair in order])
            self.assertEqual(replay.first, (found[order[0]], order[0]) if order else None)
            self.assertEqual(set(replay.breach_rows) & set(kept), set())

    def test_runs_of_verdicts(self):
        for seed in range(40):
            core = drawn_core(seed, most_tasks=2, most_weight=400)
            for number in range(len(core.tasks)):
                for party in core.parties:
                    kept = [one for one in core.parties if one != party]
                    verdict = judge(core, Due(number), kept)
                    if not verdict:
                        replay = Replay(Level(core), lifted(verdict.run))
                        self.assertEqual(replay.broken((), Due(number)), len(verdict.run) - 1)
                        self.assertLessEqual(set(replay.breach_rows), {((), party)})


if __name__ == "__main__":
    unittest.main()

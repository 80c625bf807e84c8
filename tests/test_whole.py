"""What the points 1 and 2 and the opening of "The interface" promise over the whole program."""

import random
import unittest

import joints_model
from firstbreach.choices import Choice
from firstbreach.cores import Core
from firstbreach.culprits import culprits
from firstbreach.desks import Desk, rehearse
from firstbreach.errors import Refused
from firstbreach.houses import House
from firstbreach.judging import judge
from firstbreach.lending import outcome, together
from firstbreach.levels import Level, lifted
from firstbreach.promises import Due, Fed, Free, Spare
from firstbreach.reading import read_plan
from firstbreach.replay import Replay
from firstbreach.rests import least_sets
from firstbreach.supplies import Supply
from firstbreach.tasks import NONE, Task
from firstbreach.traces import as_bytes, as_text, read_trace, write_trace
from firstbreach.writing import plan_text
from joints_model import drawn_level
from plans import drawn_plan
from samples import drawn_core
from test_houses import state_of


def promises_of(core):
    """Some promises that fit the core."""
    found = [Free(), Spare(1, 2), Spare(0, 1)] + [Due(number) for number in range(len(core.tasks))]
    return found + [Fed(number) for number, task in enumerate(core.tasks) if task.server]


class RunsTest(unittest.TestCase):
    def traced(self, rows):
        """The rows, written and read."""
        read = read_trace(write_trace(rows))
        self.assertEqual(read, rows)
        return read

    def test_runs_of_verdicts(self):
        count = 0
        for seed in range(50):
            core = drawn_core(seed, most_tasks=2, most_weight=500)
            for promise in promises_of(core):
                for kept in ([], core.parties, core.parties[::2]):
                    verdict = judge(core, promise, kept)
                    if not verdict:
                        count += 1
                        replay = Replay(Level(core), self.traced(lifted(verdict.run)))
                        self.assertEqual(replay.broken((), promise), len(verdict.run) - 1)
                        self.assertEqual([pair for pair in replay.breach_rows if pair[1] in kept], [])
                        self.assertEqual(replay.rows_of(()), verdict.run)
        self.assertGreater(count, 100)

    def test_runs_of_culprits(self):
        count = 0
        for seed in range(40):
            core = drawn_core(seed, most_tasks=2, most_weight=400)
            for promise in promises_of(core):
                sets = least_sets(core, promise)
                for parties, run in culprits(core, promise):
                    count += 1
                    replay = Replay(Level(core), self.traced(lifted(run)))
                    self.assertEqual(replay.broken((), promise), len(run) - 1)
                    self.assertEqual({party for _, party in replay.breach_rows}, set(parties))
                    told = replay.account((), promise, sets)
                    self.assertNotIn(None, told)
                    for one, (index, party) in zip(sets, told):
                        self.assertIn(party, one)
                        self.assertIn(party, parties)
                        self.assertEqual(replay.breach_rows[((), party)], index)
        self.assertGreater(count, 40)

    def test_joint_runs(self):
        count = 0
        for seed in range(80):
            level = drawn_level(seed, 40)
            path = random.Random(seed).choice(level.paths)
            for promise in promises_of(level[path]):
                verdict = together(level, path, promise)
                if not verdict:
                    count += 1
                    replay = Replay(level, self.traced(verdict.run))
                    self.assertEqual(replay.broken(path, promise), len(verdict.run) - 1)
                    self.assertEqual([pair for pair in replay.breach_rows if pair in level.parties], [])
                    told = outcome(level, path, promise)
                    self.assertEqual(told.word, "broken")
                    self.assertIn(told.fault, [path[:length] for length in range(len(path) + 1)])
        self.assertGreater(count, 40)

    def test_a_run_of_a_refused_deed(self):
        half = Supply.share(1, 2)
        inner = Level(Core(half, Task.plain(1, 4, 4)))
        desk = Desk(House({"a": Level(Core(Supply.always(), Task.serving(1, 2)), {0: inner})}))
        desk.tick({"a": ((1, (0,), 0, 0), (((1, (0,), -1, 0), ()),))})
        joint = desk.house.joint_of("a")
        level = desk.house.level_of("a")
        for path, task in (((0,), Task.plain(2, 3, 4)), ((), Task.plain(2, 2, 4))):
            with self.assertRaises(Refused) as caught:
                desk.ask("a", task, path=path)
            error = caught.exception
            changed = level.joined(path, task)
            # The standing from which the run begins: the task is the last one, with the status NONE.
            parts = joints_model.flat(level, joint)
            parts[path] = (parts[path][0], parts[path][1] + (NONE,))
            start = joints_model.woven(changed, parts)
            replay = Replay(changed, self.traced(error.run), start=start)
            self.assertEqual(replay.broken(error.path, Due(error.task)), len(error.run) - 1)
            self.assertEqual([pair for pair in replay.breach_rows if pair in changed.parties], [])


class PlansTest(unittest.TestCase):
    def test_a_plan_that_is_read_ticks_as_the_one_that_was_written(self):
        for seed in range(50):
            levels, hall = drawn_plan(seed, 60)
            data = as_bytes(plan_text(levels, hall))
            house, other = House(levels, hall), House(*read_plan(as_text(data)))
            self.assertEqual(other.names, house.names)
            draw = random.Random(seed)
            traces = {name: [] for name in levels}
            for _ in range(6):
                rows = {name: draw.choice(list(level.joint_options(house.joint_of(name), [])))
                        for name, level in levels.items()}
                self.assertEqual(other.tick(rows), house.tick(rows))
                for name in levels:
                    traces[name].append(rows[name])
                    self.assertEqual(other.joint_of(name), house.joint_of(name))
                told, expected = state_of(other), state_of(house)
                self.assertEqual((told[0], told[2:]), (expected[0], expected[2:]))
            for name in levels:
                replay = Replay(other.level_of(name), read_trace(write_trace(traces[name])))
                self.assertEqual(replay.joints[-1], house.joint_of(name))
                ticks = {triple[1:]: tick for triple, tick in house.breach_ticks().items() if triple[0] == name}
                self.assertEqual(replay.breach_rows, ticks)

    def test_a_plan_of_a_house_that_has_changed(self):
        house = House({"north": Level(Core(Supply.always(), Task.plain(1, 2, 4)))})
        desk = Desk(house)
        desk.ask("north", Task.plain(1, 4, 4))
        desk.exchange("north", choice=Choice("dues", "lend"), guard="trust")
        levels, _ = read_plan(plan_text({name: house.level_of(name) for name in house.names}))
        self.assertEqual(len(levels["north"].core.tasks), 2)
        self.assertEqual(levels["north"].core.choice.order, "dues")
        again = rehearse(Desk(House(levels)), [("secure", "north")])[0]
        self.assertEqual(set(again.table), set(desk.secure("north").table))


class SetsTest(unittest.TestCase):
    def test_what_a_promise_rests_on_is_enough_in_joint_runs(self):
        for seed in range(40):
            level = drawn_level(seed, 30)
            if len(level.paths) > 1:
                continue
            for promise in promises_of(level.core)[1:]:
                for parties in least_sets(level.core, promise):
                    self.assertTrue(together(level, (), promise, [((), party) for party in parties]))

    def test_arguments_stay_as_they_are(self):
        core = Core(Supply.share(1, 2), Task.plain(1, 4, 4), Task.serving(1, 4))
        level = Level(core, {1: Level(Core(Supply.share(1, 4)))})
        kept = [((), "supply"), ((), "choice"), ((), "supply")]
        together(level, (), Due(0), kept)
        list(level.joint_options(level.start(), kept))
        self.assertEqual(kept, [((), "supply"), ((), "choice"), ((), "supply")])
        rows = [((1, (0, 0), 0, 0), (((0, (), -1, 0), ()),))]
        Replay(level, rows).rows.clear()
        write_trace(rows)
        level.play(rows)
        self.assertEqual(rows, [((1, (0, 0), 0, 0), (((0, (), -1, 0), ()),))])
        deeds = [("tick", {"a": rows[0]}, {}), ("secure", "a")]
        rehearse(Desk(House({"a": level})), deeds)
        self.assertEqual(deeds, [("tick", {"a": rows[0]}, {}), ("secure", "a")])


if __name__ == "__main__":
    unittest.main()

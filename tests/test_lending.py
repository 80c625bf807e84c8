"""Points 38 and 39, and what point 2 says of papers and outcomes."""

import random
import unittest

import joints_model
from firstbreach.choices import Choice
from firstbreach.cores import Core
from firstbreach.errors import BadRow, InvalidPromise, UnknownParty, UnknownPath
from firstbreach.judging import Verdict, breaks_at, judge
from firstbreach.lending import Outcome, fault_of, outcome, papers, together
from firstbreach.levels import Level, lifted
from firstbreach.promises import Due, Fed, Free, Spare, first_mark, next_mark
from firstbreach.supplies import Supply
from firstbreach.tasks import NONE, Task
from joints_model import drawn_joint_run, drawn_level

ALWAYS = Supply.always()
HALF = Supply.share(1, 2)
SERVER = Task.serving(1, 2)
LAX = Task.plain(1, 3, 4)

# The host keeps its contract, and the guest its promise.
GOOD = Level(Core(ALWAYS, SERVER, Task.plain(1, 4, 4)), {0: Level(Core(HALF, LAX))})
# The other task of the host comes first, so that the server is not always fed in time.
HASTY = Core(ALWAYS, Task.plain(2, 2, 4), SERVER)
HOST_FAILS = Level(HASTY, {1: Level(Core(HALF, LAX))})
# The same with a guest that needs less than it may rely on.
STILL_HOLDS = Level(HASTY, {1: Level(Core(HALF, Task.plain(1, 5, 6)))})
# The guest asks for more than it may rely on.
GUEST_FAILS = Level(Core(ALWAYS, SERVER), {0: Level(Core(HALF, Task.plain(2, 3, 4)))})
# A guest in a guest, where the top core fails.
INNER = Level(Core(HALF, Task.serving(1, 4)), {0: Level(Core(Supply.share(1, 4), Task.plain(1, 7, 8)))})
DEEP = Level(Core(ALWAYS, SERVER), {0: INNER})
TOP_FAILS = Level(Core(Supply.share(1, 8), SERVER), {0: INNER})
# A guest in a guest, where the middle core fails: its other task comes first.
BUSY = Core(HALF, Task.plain(4, 8, 8), Task.serving(1, 4))
MIDDLE_FAILS = Level(Core(ALWAYS, SERVER), {0: Level(BUSY, {1: Level(Core(Supply.share(1, 4), Task.plain(1, 7, 8)))})})


def told_fault(level, path, promise, rows):
    """The core at fault, told by the words of point 39."""
    joints = [level.start()] + level.play(rows)
    found = {}
    for k, row in enumerate(rows):
        for pair in joints_model.breaches(level, joints[k], row):
            found.setdefault(pair, []).append(k)
    core = level[path]
    mark = first_mark(core, promise)
    limit = None
    for k, row in enumerate(rows):
        before, after = level.part(joints[k], path), level.part(joints[k + 1], path)
        mark = next_mark(core, promise, mark, before, level.part(row, path), after)
        if mark == -1:
            limit = k
            break
    if limit is None:
        return None
    while path:
        earlier = [j for j in found.get((path, "supply"), []) if j <= limit]
        if not earlier:
            return path
        limit = earlier[0]
        path = path[:-1]
    return path


class TogetherCase(unittest.TestCase):
    def check(self, level, path, promise, kept=None, start=None):
        """Holds the verdict against a search through all options; returns it."""
        verdict = together(level, path, promise, kept, start=start)
        self.assertIsInstance(verdict, Verdict)
        core = level[path]

        def following(mark, joint, row, after):
            parts = [level.part(one, path) for one in (joint, row, after)]
            return next_mark(core, promise, mark, *parts)

        begun = level.start() if start is None else start
        parties = level.parties if kept is None else kept
        found, count = joints_model.searched(level, begun, parties, following, first_mark(core, promise))
        self.assertIs(verdict.holds, count is None)
        if verdict.holds:
            self.assertIsNone(verdict.run)
            self.assertEqual(len(set(verdict.table)), len(verdict.table))
            self.assertEqual(set(verdict.table), set(found))
            distances = [found[pair] for pair in verdict.table]
            self.assertEqual(distances, sorted(distances))
        else:
            self.assertIsNone(verdict.table)
            self.assertEqual(len(verdict.run), count)
            joint = begun
            for row in verdict.run:
                self.assertEqual(set(level.breaches(joint, row)) & set(parties), set())
                joint = level.after(joint, row)
            rows = [level.part(row, path) for row in verdict.run]
            self.assertEqual(breaks_at(core, promise, rows, start=level.part(begun, path)), count - 1)
        return verdict


class TogetherTest(TogetherCase):
    def test_promises_of_hosts_and_guests(self):
        for level, path, promise, holds in (
            (GOOD, (), Fed(0), True),
            (GOOD, (), Due(0), True),
            (GOOD, (), Due(1), True),
            (GOOD, (0,), Due(0), True),
            (GOOD, (0,), Free(), True),
            (GOOD, (0,), Spare(0, 1), True),
            (GOOD, (0,), Spare(1, 2), False),
            (HOST_FAILS, (1,), Due(0), False),
            (STILL_HOLDS, (1,), Due(0), True),
            (GUEST_FAILS, (0,), Due(0), False),
            (DEEP, (0, 0), Due(0), True),
            (TOP_FAILS, (0, 0), Due(0), False),
            (MIDDLE_FAILS, (0, 1), Due(0), False),
        ):
            self.assertIs(self.check(level, path, promise).holds, holds)

    def test_a_level_without_guests(self):
        core = Core(HALF, LAX, Task.plain(1, 2, 4))
        level = Level(core)
        for promise in (Due(0), Due(1), Spare(1, 4), Free()):
            own = judge(core, promise, core.parties)
            verdict = self.check(level, (), promise)
            self.assertIs(verdict.holds, own.holds)
            if own.holds:
                table = [((standing, ()), mark) for standing, mark in own.table]
                self.assertEqual(sorted(verdict.table), sorted(table))
            else:
                self.assertEqual(breaks_at(core, promise, [row for row, _ in verdict.run]), len(own.run) - 1)
                self.assertEqual(level.play(lifted(own.run))[-1][0], core.play(own.run)[-1])

    def test_some_parties(self):
        own = [((0,), "choice")]
        host = [((), "supply"), ((), "choice"), ((), "gaps0")]
        self.assertTrue(self.check(GOOD, (0,), Due(0), own + host))
        self.assertTrue(self.check(GOOD, (0,), Due(0), tuple(own + host + own)))
        for pair in own + host:
            kept = [one for one in own + host if one != pair]
            self.assertFalse(self.check(GOOD, (0,), Due(0), kept))
        self.assertFalse(self.check(GOOD, (0,), Due(0), []))
        self.assertTrue(self.check(GOOD, (0,), Free(), []))

    def test_from_a_joint_standing_on_the_way(self):
        rows = [((1, (0, -1), 0, 0), (((1, (0,), -1, 0), ()),)), ((1, (-1, -1), -1, 0), (((0, (-1,), -1, 0), ()),))]
        joint = GOOD.play(rows)[-1]
        self.assertEqual(self.check(GOOD, (0,), Due(0), None, joint).holds, True)
        # By now the job of the guest is unfinished with an age of 2; the guest gets no tick in the next row.
        late = (((0,), ((0, 1, 1, 0), NONE)), ((((0,), ((0, 2, 0, 0),)), ()),))
        verdict = self.check(GOOD, (0,), Due(0), None, late)
        self.assertEqual(len(verdict.run), 1)
        verdict = together(GOOD, (0,), Due(0), start=joint)
        self.assertEqual(verdict.table[0], (joint, 0))

    def test_lists_in_a_joint_standing(self):
        start = (([0], [(0, 1, 1, 0), NONE]), [(([0], [(0, 2, 0, 0)]), [])])
        self.assertEqual(len(together(GOOD, (0,), Due(0), start=start).run), 1)
        start = (([0], [NONE, NONE]), [(([0], [NONE]), [])])
        self.assertEqual(together(GOOD, (0,), Due(0), start=start).table, together(GOOD, (0,), Due(0)).table)

    def test_errors(self):
        with self.assertRaises(UnknownPath) as caught:
            together(GOOD, (1,), Due(5), [((), "z")])
        self.assertEqual(caught.exception.path, (1,))
        for promise in (Due(1), Fed(0), Spare(2, 1), Due(0, late=2)):
            with self.assertRaises(InvalidPromise):
                together(GOOD, (0,), promise, [((), "z")])
        for kept, pair in (
            ([((), "choice"), ((0,), "supply"), ((), "z")], ((0,), "supply")),
            ([((), "z"), ((0,), "supply")], ((), "z")),
        ):
            with self.assertRaises(UnknownParty) as caught:
                together(GOOD, (0,), Due(0), kept)
            self.assertEqual(caught.exception.party, pair)


class PapersTest(unittest.TestCase):
    def check(self, level, path, promise):
        """Holds the papers against the words of point 39; returns whether the verdicts hold."""
        triples = papers(level, path, promise)
        self.assertIs(type(triples), list)
        self.assertEqual([place for place, _, _ in triples], [path[:count] for count in range(len(path), -1, -1)])
        self.assertIs(triples[0][1], promise)
        for (below, _, _), (_, contract, _) in zip(triples, triples[1:]):
            self.assertIsInstance(contract, Fed)
            self.assertEqual(contract.task, below[-1])
        for place, one, verdict in triples:
            own = judge(level[place], one, level[place].parties)
            self.assertEqual((verdict.holds, verdict.table, verdict.run), (own.holds, own.table, own.run))
        return [verdict.holds for _, _, verdict in triples]

    def test_papers(self):
        for level, path, promise, told in (
            (GOOD, (), Due(1), [True]),
            (GOOD, (0,), Due(0), [True, True]),
            (GOOD, (0,), Spare(1, 2), [False, True]),
            (HOST_FAILS, (1,), Due(0), [True, False]),
            (GUEST_FAILS, (0,), Due(0), [False, True]),
            (DEEP, (0, 0), Due(0), [True, True, True]),
            (DEEP, (0,), Fed(0), [True, True]),
            (DEEP, (), Fed(0), [True]),
            (TOP_FAILS, (0, 0), Due(0), [True, True, False]),
            (MIDDLE_FAILS, (0, 1), Due(0), [True, False, True]),
        ):
            self.assertEqual(self.check(level, path, promise), told)

    def test_errors(self):
        for call in (papers, outcome):
            with self.assertRaises(UnknownPath) as caught:
                call(GOOD, (0, 0), Due(7))
            self.assertEqual(caught.exception.path, (0, 0))
            with self.assertRaises(InvalidPromise):
                call(GOOD, (0,), Due(1))


class OutcomeTest(unittest.TestCase):
    def check(self, level, path, promise):
        """Holds the outcome against its parts; returns the word and the fault."""
        told = outcome(level, path, promise)
        self.assertIsInstance(told, Outcome)
        self.assertEqual([one[0] for one in told.papers], [path[:count] for count in range(len(path), -1, -1)])
        verdict = together(level, path, promise)
        if all(one[2] for one in told.papers):
            self.assertEqual((told.word, told.together, told.fault), ("books", None, None))
            self.assertTrue(verdict)
        elif verdict:
            self.assertEqual((told.word, told.fault), ("here", None))
            self.assertEqual(told.together.table, verdict.table)
        else:
            self.assertEqual(told.word, "broken")
            self.assertEqual(len(told.together.run), len(verdict.run))
            self.assertEqual(told.fault, told_fault(level, path, promise, told.together.run))
            # All parties keep their books, so a paper of the core at fault does not hold.
            failed = [place for place, _, one in told.papers if not one]
            self.assertIn(told.fault, failed)
        return told.word, told.fault

    def test_words_and_faults(self):
        for level, path, promise, word, fault in (
            (GOOD, (0,), Due(0), "books", None),
            (GOOD, (), Fed(0), "books", None),
            (STILL_HOLDS, (1,), Due(0), "here", None),
            (HOST_FAILS, (1,), Due(0), "broken", ()),
            (GUEST_FAILS, (0,), Due(0), "broken", (0,)),
            (DEEP, (0, 0), Due(0), "books", None),
            (TOP_FAILS, (0, 0), Due(0), "broken", ()),
            (TOP_FAILS, (), Fed(0), "broken", ()),
            (MIDDLE_FAILS, (0, 1), Due(0), "broken", (0,)),
        ):
            self.assertEqual(self.check(level, path, promise), (word, fault))

    def test_drawn_levels(self):
        words = set()
        for seed in range(120):
            level = drawn_level(seed, most_weight=60)
            draw = random.Random(seed)
            path = draw.choice(level.paths)
            core = level[path]
            promises = [Spare(1, draw.randint(1, 4))] + [Due(number) for number in range(len(core.tasks))]
            promises += [Fed(number) for number, task in enumerate(core.tasks) if task.server]
            word, fault = self.check(level, path, draw.choice(promises))
            words.add((word, None if fault is None else len(path) - len(fault)))
        self.assertLessEqual({("books", None), ("here", None), ("broken", 0), ("broken", 1)}, words)


class ContractTest(unittest.TestCase):
    def test_a_contract_holds_exactly_if_the_server_is_never_late(self):
        for core, server in ((GOOD.core, 0), (HASTY, 1), (BUSY, 1), (Core(HALF, SERVER, SERVER), 1)):
            own = [f"gaps{server}", f"needs{server}"]
            others = [party for party in core.parties if party not in own]
            for left_out in [None] + others:
                kept = own + [party for party in others if party != left_out]
                self.assertIs(judge(core, Fed(server), kept).holds, judge(core, Due(server), kept).holds)

    def test_the_union_of_sets_is_enough(self):
        guest_sets = [["supply", "choice"], ["supply", "choice", "gaps0"]]
        host_sets = [["supply", "choice", "gaps0"], list(GOOD.core.parties)]
        for inner in guest_sets:
            self.assertTrue(judge(GOOD[(0,)], Due(0), inner))
            for outer in host_sets:
                self.assertTrue(judge(GOOD.core, Fed(0), outer))
                kept = [((0,), party) for party in inner if party != "supply"] + [((), party) for party in outer]
                self.assertTrue(together(GOOD, (0,), Due(0), kept))


class FaultTest(unittest.TestCase):
    # In rows of GOOD: the server runs or not, and the guest's task or not.
    FED = ((1, (0, -1), 0, 0), (((1, (0,), -1, 0), ()),))
    WASTED = ((1, (-1, -1), -1, 0), (((0, (-1,), -1, 0), ()),))

    def test_a_promise_that_does_not_break(self):
        self.assertIsNone(fault_of(GOOD, (0,), Due(0), []))
        self.assertIsNone(fault_of(GOOD, (0,), Due(0), [self.FED, self.WASTED]))
        self.assertIsNone(fault_of(GOOD, (), Due(0), [self.FED, self.WASTED, self.WASTED]))

    def test_the_host_is_at_fault(self):
        waiting = ((1, (0, -1), -1, 0), (((0, (0,), -1, 0), ()),))
        rows = [waiting] + [self.WASTED] * 3
        self.assertEqual(fault_of(GOOD, (0,), Due(0), rows), ())
        self.assertEqual(fault_of(GOOD, (0,), Due(0), rows[:3]), ())
        self.assertIsNone(fault_of(GOOD, (0,), Due(0), rows[:2]))

    def test_a_supply_that_breaks_in_the_row_that_breaks_the_promise(self):
        # The job comes when a period is half over, and is late by the end of the next one.
        rows = [self.FED, self.WASTED, self.WASTED]
        self.assertEqual(fault_of(GOOD, (0,), Due(0), rows), (0,))
        later = ((1, (0, -1), 0, 0), (((1, (-1,), -1, 0), ()),))
        comes = ((1, (-1, -1), -1, 0), (((0, (0,), -1, 0), ()),))
        rows = [later, comes, self.WASTED, self.WASTED]
        breaches = [GOOD.breaches(joint, row) for joint, row in zip([GOOD.start()] + GOOD.play(rows), rows)]
        self.assertEqual([((0,), "supply") in found for found in breaches], [False, False, False, True])
        self.assertEqual(fault_of(GOOD, (0,), Due(0), rows), ())

    def test_the_core_itself_is_at_fault(self):
        idle = ((1, (0, -1), 0, 0), (((1, (-1,), -1, 0), ()),))
        rows = [self.FED, self.WASTED, idle]
        self.assertEqual(GOOD.breaches(GOOD.play(rows[:2])[-1], idle), [((0,), "choice")])
        self.assertEqual(fault_of(GOOD, (0,), Due(0), rows), (0,))

    def test_a_supply_that_breaks_later_is_no_excuse(self):
        idle = ((1, (0, -1), 0, 0), (((1, (-1,), -1, 0), ()),))
        rows = [self.FED, self.WASTED, idle] + [self.WASTED] * 3
        self.assertEqual(fault_of(GOOD, (0,), Due(0), rows), (0,))

    def test_a_promise_of_the_top_core(self):
        idle = ((1, (0, -1), -1, 0), (((0, (-1,), -1, 0), ()),))
        kept_back = ((0, (-1, -1), -1, 0), (((0, (-1,), -1, 0), ()),))
        self.assertEqual(fault_of(GOOD, (), Due(0), [idle, idle]), ())
        self.assertEqual(fault_of(GOOD, (), Due(0), [idle, kept_back]), ())

    def test_a_guest_in_a_guest(self):
        # The top core keeps back what the middle one relies on.
        no_one = ((0, (-1,), -1, 0), (((0, (-1,), -1, 0), (((0, (0,), -1, 0), ()),)),))
        rows = [no_one] * 8
        self.assertEqual(fault_of(DEEP, (0, 0), Due(0), rows), ())
        # The middle core gets its ticks and gives the inner one none.
        fed = ((1, (0,), 0, 0), (((1, (-1,), -1, 0), (((0, (0,), -1, 0), ()),)),))
        starved = ((1, (-1,), -1, 0), (((0, (-1,), -1, 0), (((0, (-1,), -1, 0), ()),)),))
        rows = [fed, starved] * 4
        self.assertEqual(fault_of(DEEP, (0, 0), Due(0), rows), (0,))
        # The inner core gets its ticks and leaves them over.
        lent = ((1, (0,), 0, 0), (((1, (0,), 0, 0), (((1, (0,), -1, 0), ()),)),))
        rows = [lent, starved, fed, starved] * 2
        self.assertEqual(fault_of(DEEP, (0, 0), Due(0), rows), (0, 0))
        for rows in ([no_one] * 8, [fed, starved] * 4, [lent, starved, fed, starved] * 2):
            self.assertEqual(fault_of(DEEP, (0, 0), Due(0), rows), told_fault(DEEP, (0, 0), Due(0), rows))

    def test_a_host_whose_supply_breaks_after_the_guests_has_no_excuse(self):
        fed = ((1, (0,), 0, 0), (((1, (-1,), -1, 0), (((0, (0,), -1, 0), ()),)),))
        starved = ((1, (-1,), -1, 0), (((0, (-1,), -1, 0), (((0, (-1,), -1, 0), ()),)),))
        # The inner supply breaks in row 3 at the latest, that of the middle core not before row 5.
        rows = [fed, starved, fed, starved] + [starved] * 4
        pairs = [DEEP.breaches(joint, row) for joint, row in zip([DEEP.start()] + DEEP.play(rows), rows)]
        inner = [k for k, found in enumerate(pairs) if ((0, 0), "supply") in found]
        middle = [k for k, found in enumerate(pairs) if ((0,), "supply") in found]
        self.assertEqual((inner, middle), ([3], [5]))
        self.assertEqual(fault_of(DEEP, (0, 0), Due(0), rows), (0,))

    def test_bad_rows(self):
        bad = ((1, (0, -1), -1, 0), (((1, (-1,), -1, 0), ()),))
        idle = ((1, (0, -1), -1, 0), (((0, (0,), -1, 0), ()),))
        rows = [idle] * 4
        self.assertEqual(fault_of(GOOD, (0,), Due(0), rows), ())
        for index in range(5):
            with self.assertRaises(BadRow) as caught:
                fault_of(GOOD, (0,), Due(0), rows[:index] + [bad] + rows[index:] + [bad])
            self.assertEqual(caught.exception.index, index)

    def test_the_order_of_the_errors(self):
        bad = ((2, (0, -1), -1, 0), ())
        with self.assertRaises(UnknownPath):
            fault_of(GOOD, (2,), Due(9), [bad])
        with self.assertRaises(InvalidPromise):
            fault_of(GOOD, (0,), Due(9), [bad])

    def test_drawn_runs(self):
        told = set()
        for seed in range(300):
            level = drawn_level(seed, most_weight=100)
            rows, _ = drawn_joint_run(level, seed, 12)
            for path in level:
                for number in range(len(level[path].tasks)):
                    fault = fault_of(level, path, Due(number), rows)
                    self.assertEqual(fault, told_fault(level, path, Due(number), rows))
                    if fault is not None:
                        told.add((len(path), len(fault)))
        self.assertLessEqual({(0, 0), (1, 0), (1, 1), (2, 0), (2, 1), (2, 2)}, told)


class DrawnTest(TogetherCase):
    def test_drawn_levels(self):
        told = {}
        for seed in range(100):
            level = drawn_level(seed, most_weight=40)
            draw = random.Random(seed)
            path = draw.choice(level.paths)
            core = level[path]
            promises = [Free(), Spare(1, draw.randint(1, 4))] + [Due(number) for number in range(len(core.tasks))]
            promises += [Fed(number) for number, task in enumerate(core.tasks) if task.server]
            promise = draw.choice(promises)
            # With few parties there are too many options for the search.
            left_out = draw.sample(level.parties, draw.randint(0, 2))
            kept = [pair for pair in level.parties if pair not in left_out]
            verdict = self.check(level, path, promise, kept)
            told.setdefault((len(path), verdict.holds), []).append(seed)
        self.assertLessEqual({(0, True), (0, False), (1, True), (1, False)}, set(told))


if __name__ == "__main__":
    unittest.main()

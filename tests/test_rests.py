"""Point 33, and what point 2 says of sets of parties."""

import itertools
import random
import unittest

from firstbreach.choices import Choice
from firstbreach.cores import Core
from firstbreach.errors import InvalidPromise, Needless, NotEnough, UnknownParty
from firstbreach.judging import breaks_at, judge
from firstbreach.promises import Due, Fed, Free, Spare
from firstbreach.rests import isolated, lacking, least_sets
from firstbreach.supplies import Supply
from firstbreach.tasks import Task
from samples import drawn_core, drawn_run, keeps_books

ALWAYS = Supply.always()
PAIR = Core(ALWAYS, Task.plain(1, 1, 2), Task.plain(1, 2, 2))
OPEN = PAIR.changed(door="open", guard="trust")


def drawn_promises(core):
    """Promises that fit the core."""
    return (
        [Due(number) for number in range(len(core.tasks))]
        + [Fed(number) for number, task in enumerate(core.tasks) if task.server]
        + [Free(), Spare(1, 3)]
    )


def all_least_sets(core, promise):
    """The least sets, by judging all sets."""
    sets = [s for size in range(len(core.parties) + 1) for s in itertools.combinations(core.parties, size)]
    enough = [one for one in sets if judge(core, promise, one)]
    return [one for one in enough if not any(set(other) < set(one) for other in enough)]


class LeastSetsTest(unittest.TestCase):
    def test_all_parties_are_not_enough(self):
        self.assertEqual(least_sets(Core(ALWAYS, Task.plain(2, 2, 2), Task.plain(1, 1, 1)), Due(1)), [])
        self.assertEqual(least_sets(Core(Supply.share(1, 2)), Spare(1, 1)), [])

    def test_no_party_is_needed(self):
        self.assertEqual(least_sets(PAIR, Spare(0, 3)), [()])
        self.assertEqual(least_sets(PAIR, Free()), [()])
        self.assertEqual(least_sets(Core(ALWAYS), Free()), [()])

    def test_with_a_shut_door_and_the_guard_cut(self):
        self.assertEqual(least_sets(PAIR, Due(0)), [("choice", "supply")])
        self.assertEqual(least_sets(PAIR, Due(1)), [("choice", "supply")])

    def test_with_an_open_door_and_the_guard_trust(self):
        self.assertEqual(least_sets(OPEN, Due(0)), [("choice", "needs0", "supply")])
        self.assertEqual(least_sets(OPEN, Due(1)), [("choice", "gaps0", "needs0", "needs1", "supply")])

    def test_one_party_is_needed(self):
        self.assertEqual(least_sets(Core(ALWAYS), Spare(1, 1)), [("supply",)])
        crossed = (Task([(("a", "ab"), 4)], [(0, 0, 4)]), Task([(("b", "ab"), 4)], [(0, 0, 4)]))
        self.assertEqual(least_sets(Core(ALWAYS, *crossed, choice=Choice("first", "ceil")), Free()), [("choice",)])

    def test_several_least_sets(self):
        # With the guard "after" a server that asks for more lets all other jobs go first, so that it is enough
        # that it asks for no more, or that no job of the other task comes too early.
        core = Core(ALWAYS, Task.serving(1, 3), Task.plain(1, 5, 5), door="open", guard="after")
        told = [("choice", "gaps0", "gaps1", "supply"), ("choice", "gaps0", "needs0", "supply")]
        self.assertEqual(least_sets(core, Fed(0)), told)
        shut = Core(ALWAYS, Task.serving(2, 3), Task.serving(1, 3), choice=Choice("last"), guard="after")
        told = [("choice", "gaps1", "needs1", "supply"), ("choice", "gaps0", "gaps1", "needs0", "supply")]
        self.assertEqual(least_sets(shut, Fed(1)), told)
        for one in (core, shut):
            for promise in drawn_promises(one):
                self.assertEqual(least_sets(one, promise), all_least_sets(one, promise))

    def test_three_least_sets(self):
        # All jobs come at 0 and can be done then; only if all three tasks put theirs off, time is short.
        tired = Supply(6, [(state, 0 if state == 3 else 1, (state + 1) % 6) for state in range(6)])
        last = Task([(("",), 3)], [(0, 0, 6)], steady=True)
        core = Core(tired, Task.serving(1, 6), Task.serving(1, 6), last)
        told = [("choice", f"gaps{number}", "supply") for number in range(3)]
        self.assertEqual(least_sets(core, Due(2)), told)

    def test_the_order(self):
        for seed in range(40):
            core = drawn_core(seed, most_weight=300)
            for promise in drawn_promises(core):
                told = least_sets(core, promise)
                self.assertIs(type(told), list)
                self.assertEqual(told, sorted(told, key=lambda one: (len(one), one)))
                for one in told:
                    self.assertIs(type(one), tuple)
                    self.assertEqual(one, tuple(sorted(set(one))))

    def test_against_all_sets(self):
        for seed in range(60):
            core = drawn_core(seed, most_weight=250)
            for promise in drawn_promises(core):
                self.assertEqual(least_sets(core, promise), all_least_sets(core, promise), seed)

    def test_a_promise_breaks_behind_a_breach_of_each_least_set(self):
        broken = 0
        for seed in range(120):
            core = drawn_core(seed, most_weight=300)
            promises = [(promise, least_sets(core, promise)) for promise in drawn_promises(core)]
            for draw in range(4):
                rows = drawn_run(core, draw, 12)[0]
                for promise, sets in promises:
                    index = breaks_at(core, promise, rows)
                    if index is not None:
                        broken += 1
                        for one in sets:
                            self.assertFalse(keeps_books(core, rows[:index + 1], one))
        self.assertGreater(broken, 50)

    def test_invalid_promises(self):
        for promise in (Due(2), Due(-1), Due(0, late=2), Spare(3, 2), Fed(0)):
            with self.assertRaises(InvalidPromise):
                least_sets(PAIR, promise)


class SentencesTest(unittest.TestCase):
    """What doors, guards and orders keep out of the least sets."""

    def cores(self):
        for seed in range(80):
            core = drawn_core(seed, most_weight=300)
            sets = [one for promise in drawn_promises(core) for one in least_sets(core, promise)]
            yield core, {party for one in sets for party in one}

    def test_the_door_shut(self):
        for core, parties in self.cores():
            for number, task in enumerate(core.tasks):
                if core.door == "shut" and not task.steady:
                    self.assertNotIn(f"gaps{number}", parties)

    def test_the_guard_cut(self):
        for core, parties in self.cores():
            if core.guard == "cut":
                self.assertFalse([party for party in parties if party.startswith("needs")])

    def test_the_order_first(self):
        draw = random.Random(5)
        others = 0
        for _ in range(40):
            tasks = [Task.plain(1, draw.randint(1, 3), draw.randint(3, 4)) for _ in range(2)]
            tasks.insert(draw.randint(0, 2), Task.serving(1, draw.randint(2, 4)))
            core = Core(draw.choice((ALWAYS, Supply.share(3, 4))), *tasks[:2], door="open", guard="trust")
            for number in range(len(core.tasks)):
                for one in least_sets(core, Due(number)):
                    for other in range(number + 1, len(core.tasks)):
                        self.assertNotIn(f"gaps{other}", one)
                        self.assertNotIn(f"needs{other}", one)
                    others += f"gaps{number - 1}" in one
        self.assertGreater(others, 5)


class LackingTest(unittest.TestCase):
    def check(self, core, promise, parties):
        told = lacking(core, promise, parties)
        self.assertIs(type(told), list)
        self.assertEqual([party for party, _ in told], sorted(parties))
        for party, run in told:
            others = [other for other in parties if other != party]
            self.assertTrue(keeps_books(core, run, others))
            self.assertEqual(breaks_at(core, promise, run), len(run) - 1)
            self.assertEqual(len(run), len(judge(core, promise, others).run))
            self.assertFalse(keeps_books(core, run, [party]))
        return told

    def test_least_sets(self):
        self.check(OPEN, Due(1), ("choice", "gaps0", "needs0", "needs1", "supply"))
        self.check(PAIR, Due(0), ["choice", "supply"])
        self.assertEqual(lacking(PAIR, Free(), []), [])

    def test_any_order_of_the_parties(self):
        for parties in itertools.permutations(("supply", "needs0", "choice")):
            self.check(OPEN, Due(0), list(parties))
            self.check(OPEN, Due(0), parties)

    def test_the_list_stays(self):
        parties = ["supply", "choice"]
        lacking(PAIR, Due(0), parties)
        self.assertEqual(parties, ["supply", "choice"])

    def test_invalid_promises(self):
        for parties in (["choice", "supply"], ["x"], [], list(PAIR.parties)):
            with self.assertRaises(InvalidPromise):
                lacking(PAIR, Due(5), parties)

    def test_unknown_parties(self):
        for parties in (["supply", "z", "gaps2"], ("z", "a"), ["z"]):
            with self.assertRaises(UnknownParty) as caught:
                lacking(PAIR, Due(0), parties)
            self.assertEqual(caught.exception.party, "z")

    def test_not_enough(self):
        for parties in (["choice"], ("needs0", "supply"), []):
            with self.assertRaises(NotEnough) as caught:
                lacking(OPEN, Due(0), parties)
            run = caught.exception.run
            self.assertTrue(keeps_books(OPEN, run, parties))
            self.assertEqual(breaks_at(OPEN, Due(0), run), len(run) - 1)
            self.assertEqual(len(run), len(judge(OPEN, Due(0), parties).run))

    def test_needless(self):
        with self.assertRaises(Needless) as caught:
            lacking(OPEN, Due(0), ["supply", "needs1", "needs0", "gaps1", "choice"])
        self.assertEqual(caught.exception.party, "gaps1")
        with self.assertRaises(Needless) as caught:
            lacking(OPEN, Due(0), ["supply", "needs1", "needs0", "choice"])
        self.assertEqual(caught.exception.party, "needs1")
        with self.assertRaises(Needless) as caught:
            lacking(PAIR, Free(), PAIR.parties)
        self.assertEqual(caught.exception.party, "choice")

    def test_drawn_cores(self):
        for seed in range(40):
            core = drawn_core(seed, most_weight=250)
            for promise in drawn_promises(core):
                for parties in least_sets(core, promise):
                    self.check(core, promise, parties)


class IsolatedTest(unittest.TestCase):
    def test_true_and_false(self):
        self.assertIs(isolated(PAIR, Due(1), 0), True)
        self.assertIs(isolated(OPEN, Due(0), 1), True)
        self.assertIs(isolated(OPEN, Due(1), 0), False)
        self.assertIs(isolated(OPEN, Due(0), 0), False)

    def test_gaps_alone_and_needs_alone(self):
        self.assertIs(isolated(PAIR.changed(door="open"), Due(1), 0), False)
        self.assertIs(isolated(PAIR.changed(guard="trust"), Due(1), 0), False)
        self.assertIs(isolated(PAIR.changed(guard="trust"), Due(0), 1), True)

    def test_not_even_all_are_enough(self):
        self.assertIs(isolated(Core(Supply.share(0, 1), Task.plain(1, 1, 1)), Due(0), 0), False)

    def test_invalid_promises(self):
        with self.assertRaises(InvalidPromise):
            isolated(PAIR, Due(2), 0)

    def test_against_the_verdict(self):
        for seed in range(60):
            core = drawn_core(seed, most_weight=300)
            for promise in drawn_promises(core):
                for number in range(len(core.tasks)):
                    kept = set(core.parties) - {f"gaps{number}", f"needs{number}"}
                    self.assertIs(isolated(core, promise, number), judge(core, promise, sorted(kept)).holds)


if __name__ == "__main__":
    unittest.main()

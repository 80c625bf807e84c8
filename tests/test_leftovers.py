"""The sentence and the functions of leftovers, with point 22."""

import random
import unittest

from firstbreach.cores import Core
from firstbreach.errors import TooLarge, UnknownParty
from firstbreach.judging import breaks_at, judge
from firstbreach.leftovers import leftover, stairs
from firstbreach.promises import Spare
from firstbreach.supplies import Supply
from firstbreach.tasks import Task
from samples import drawn_core, drawn_supply, graph_of, keeps_books, words_of

ALWAYS = Supply.always()


def ring_supply(size):
    return Supply(size, [(state, 1, (state + 1) % size) for state in range(size)])


def words_left_over(core, kept, count):
    """The words of this many ticks that the runs of the parties in kept have, ascending."""
    graph = graph_of(core, kept)
    found = {(): {core.start()}}
    for _ in range(count):
        longer = {}
        for word, standings in found.items():
            for standing in standings:
                for row, after in graph[standing]:
                    bit = 1 if row[0] == 1 and row[2] == -1 else 0
                    longer.setdefault(word + (bit,), set()).add(after)
        found = longer
    return sorted(found)


class LeftoverTest(unittest.TestCase):
    def check(self, core, kept, count=6):
        told = leftover(core, kept)
        self.assertIsInstance(told, Supply)
        self.assertEqual(words_of(told, count), words_left_over(core, kept, count))
        return told

    def test_a_core_without_tasks(self):
        for supply in (ALWAYS, Supply.share(1, 2), drawn_supply(7)):
            core = Core(supply)
            told = self.check(core, core.parties)
            self.assertTrue(told.within(supply))
            self.assertTrue(supply.within(told))
        self.assertTrue(Supply.share(0, 1).within(self.check(Core(ALWAYS), [])))
        self.assertTrue(Supply.share(0, 1).within(self.check(Core(ALWAYS), ["choice"])))

    def test_all_parties(self):
        core = Core(ALWAYS, Task.serving(1, 3))
        self.assertEqual(words_of(self.check(core, core.parties), 7), [(0, 1, 1, 0, 1, 1, 0)])
        sparse = Core(Supply.share(2, 3), Task.plain(1, 3, 3))
        self.assertTrue(self.check(sparse, sparse.parties).within(Supply.share(0, 1)))

    def test_some_parties(self):
        core = Core(ALWAYS, Task.serving(1, 3), door="open")
        self.assertEqual(words_of(self.check(core, ["supply", "choice"]), 1), [(0,), (1,)])
        self.assertEqual(words_of(self.check(core, ("supply", "gaps0", "needs0")), 1), [(0,), (1,)])
        self.assertIn((0, 0, 0, 0), self.check(core, ["supply", "choice"]))
        self.assertIn((1, 1, 1, 1), self.check(core, ["supply", "gaps0", "needs0"]))

    def test_no_parties(self):
        core = Core(ALWAYS, Task.serving(1, 3))
        self.assertEqual(len(words_of(self.check(core, []), 5)), 32)

    def test_a_party_listed_twice_counts_once(self):
        core = Core(ALWAYS, Task.serving(1, 3))
        twice = leftover(core, core.parties + core.parties)
        self.assertEqual(words_of(twice, 7), [(0, 1, 1, 0, 1, 1, 0)])

    def test_unknown_parties(self):
        core = Core(ALWAYS, Task.plain(1, 2, 3))
        for kept, party in ((["supply", "gaps1", "x"], "gaps1"), (("needs", "gaps0"), "needs")):
            with self.assertRaises(UnknownParty) as caught:
                leftover(core, kept)
            self.assertEqual(caught.exception.party, party)

    def test_more_than_5000_standings(self):
        # All parties: the standings are the places of the ring, without a task.
        self.assertEqual(leftover(Core(ring_supply(5000)), ["supply"]).size, 5000)
        with self.assertRaises(TooLarge) as caught:
            leftover(Core(ring_supply(5000)), [])
        self.assertEqual(caught.exception.bound, 5000)
        large = Core(ring_supply(2000), Task.plain(2, 4, 8))
        with self.assertRaises(TooLarge) as caught:
            leftover(large, large.parties)
        self.assertEqual(caught.exception.bound, 5000)

    def test_an_unknown_party_comes_ahead_of_too_large(self):
        with self.assertRaises(UnknownParty):
            leftover(Core(ring_supply(5000)), ["gaps0"])

    def test_drawn_cores(self):
        for seed in range(60):
            core = drawn_core(seed, most_weight=400)
            draw = random.Random(seed)
            kept = draw.sample(core.parties, draw.randint(0, len(core.parties)))
            self.check(core, kept, 4)
            self.check(core, core.parties, 6)

    def test_spare_holds_exactly_if_the_leftover_is_within_the_share(self):
        for seed in range(80):
            core = drawn_core(seed, most_weight=600)
            draw = random.Random(seed)
            kept = [party for party in core.parties if draw.random() < 0.8]
            told = leftover(core, kept)
            for q, p in ((1, 1), (1, 2), (1, 3), (1, 4), (2, 4), (3, 5), (1, 8)):
                holds = judge(core, Spare(q, p), kept).holds
                self.assertEqual(holds, told.within(Supply.share(q, p)), (seed, q, p))


class StairsTest(unittest.TestCase):
    def check(self, core, longest):
        told = stairs(core, longest)
        self.assertIs(type(told), list)
        self.assertEqual([p for p, _, _ in told], list(range(1, longest + 1)))
        for p, q, run in told:
            if p <= 8:
                self.assertTrue(judge(core, Spare(q, p), core.parties))
            if q == p:
                self.assertIsNone(run)
            elif p <= 8:
                self.assertIs(type(run), list)
                self.assertTrue(keeps_books(core, run, core.parties))
                self.assertEqual(breaks_at(core, Spare(q + 1, p), run), len(run) - 1)
                self.assertEqual(len(run), len(judge(core, Spare(q + 1, p), core.parties).run))
        return [q for _, q, _ in told]

    def test_q_is_p(self):
        self.assertEqual(stairs(Core(ALWAYS), 3), [(1, 1, None), (2, 2, None), (3, 3, None)])

    def test_q_is_0(self):
        core = Core(ALWAYS, Task.serving(1, 1))
        self.assertEqual(self.check(core, 4), [0, 0, 0, 0])
        self.assertEqual(stairs(core, 1), [(1, 0, [(1, (0,), 0, 0)])])

    def test_in_between(self):
        core = Core(ALWAYS, Task.serving(1, 3))
        self.assertEqual(self.check(core, 8), [0, 1, 2, 2, 3, 4, 4, 5])
        self.assertEqual(self.check(Core(Supply.share(3, 4), Task.plain(1, 4, 4)), 4), [0, 0, 0, 1])

    def test_no_period(self):
        self.assertEqual(stairs(Core(ALWAYS), 0), [])

    def test_somewhat_beyond_the_limit(self):
        self.assertEqual(self.check(Core(ALWAYS, Task.serving(1, 3)), 9)[8], 6)

    def test_drawn_cores(self):
        greatest = []
        for seed in range(40):
            core = drawn_core(seed, most_weight=400)
            told = self.check(core, 8)
            greatest += told
            within = [
                max(q for q in range(p + 1) if leftover(core, core.parties).within(Supply.share(q, p)))
                for p in range(1, 9)
            ]
            self.assertEqual(told, within)
        self.assertGreater(len([q for q in greatest if q]), 30)


if __name__ == "__main__":
    unittest.main()

"""Point 34, and what point 2 says of culprit sets."""

import itertools
import random
import unittest

from firstbreach.cores import Core
from firstbreach.culprits import crossing, culprits
from firstbreach.errors import InvalidPromise
from firstbreach.judging import breaks_at, judge
from firstbreach.promises import Due, Fed, Free, Spare
from firstbreach.rests import least_sets
from firstbreach.supplies import Supply
from firstbreach.tasks import Task
from samples import drawn_core

ALWAYS = Supply.always()
PAIR = Core(ALWAYS, Task.plain(1, 1, 2), Task.plain(1, 2, 2))
OPEN = PAIR.changed(door="open", guard="trust")
# Rests on two least sets: ("choice", "gaps0", "gaps1", "supply") and ("choice", "gaps0", "needs0", "supply").
TWO = Core(ALWAYS, Task.serving(1, 3), Task.plain(1, 5, 5), door="open", guard="after")

# In three ticks that begin behind the first one of each six there is no time for three jobs, but all come at 0.
TIRED = Core(
    Supply(6, [(state, 0 if state == 3 else 1, (state + 1) % 6) for state in range(6)]),
    Task.serving(1, 6), Task.serving(1, 6), Task([(("",), 3)], [(0, 0, 6)], steady=True),
)


def subsets(things):
    return [one for size in range(len(things) + 1) for one in itertools.combinations(sorted(things), size)]


def least(sets):
    return [one for one in sets if not any(set(other) < set(one) for other in sets)]


def breaking_parties(core, rows):
    """The ascending list of the parties that make breaches in the run."""
    found = set()
    standing = core.start()
    for row in rows:
        found |= set(core.breaches(standing, row))
        standing = core.after(standing, row)
    return sorted(found)


class CulpritsTest(unittest.TestCase):
    def check(self, core, promise):
        told = culprits(core, promise)
        self.assertIs(type(told), list)
        sets = subsets(core.parties)
        outside = {one: [party for party in core.parties if party not in one] for one in sets}
        self.assertEqual(
            [parties for parties, _ in told],
            least([one for one in sets if not judge(core, promise, outside[one])]),
        )
        for parties, run in told:
            self.assertIs(type(run), list)
            self.assertEqual(breaking_parties(core, run), list(parties))
            self.assertEqual(breaks_at(core, promise, run), len(run) - 1)
            self.assertEqual(len(run), len(judge(core, promise, outside[parties]).run))
        return [parties for parties, _ in told]

    def test_one_party(self):
        self.assertEqual(self.check(PAIR, Due(0)), [("choice",), ("supply",)])
        self.assertEqual(self.check(OPEN, Due(0)), [("choice",), ("needs0",), ("supply",)])

    def test_two_parties(self):
        self.assertEqual(
            self.check(TWO, Fed(0)), [("choice",), ("gaps0",), ("supply",), ("gaps1", "needs0")]
        )

    def test_more_than_two_parties(self):
        told = culprits(TIRED, Due(2))
        self.assertEqual([parties for parties, _ in told], [("choice",), ("supply",), ("gaps0", "gaps1", "gaps2")])
        for parties, run in told:
            self.assertEqual(breaking_parties(TIRED, run), list(parties))
            self.assertEqual(breaks_at(TIRED, Due(2), run), len(run) - 1)
        self.assertEqual([len(run) for _, run in told], [3, 3, 4])

    def test_all_parties_are_not_enough(self):
        core = Core(Supply.share(0, 1), Task.plain(1, 1, 1))
        told = culprits(core, Due(0))
        self.assertEqual([parties for parties, _ in told], [()])
        self.assertEqual(len(told[0][1]), 1)
        self.assertEqual(self.check(core, Due(0)), [()])

    def test_a_promise_that_needs_no_party(self):
        self.assertEqual(culprits(PAIR, Free()), [])
        self.assertEqual(culprits(Core(ALWAYS), Spare(0, 1)), [])

    def test_invalid_promises(self):
        for promise in (Due(2), Spare(9, 8), Fed(1)):
            with self.assertRaises(InvalidPromise):
                culprits(PAIR, promise)

    def test_drawn_cores(self):
        for seed in range(50):
            core = drawn_core(seed, most_weight=250)
            promises = [Due(number) for number in range(len(core.tasks))] + [Free(), Spare(1, 3)]
            for promise in promises:
                told = self.check(core, promise)
                self.assertEqual(told, crossing(least_sets(core, promise)))


class CrossingTest(unittest.TestCase):
    def test_an_empty_list(self):
        self.assertEqual(crossing([]), [()])

    def test_an_empty_tuple(self):
        self.assertEqual(crossing([()]), [])
        self.assertEqual(crossing([("a",), (), ("b", "c")]), [])

    def test_one_tuple(self):
        self.assertEqual(crossing([("b", "a", "c")]), [("a",), ("b",), ("c",)])

    def test_several_tuples(self):
        self.assertEqual(crossing([("a", "b"), ("b", "c")]), [("b",), ("a", "c")])
        self.assertEqual(crossing([("a",), ("b",), ("c",)]), [("a", "b", "c")])
        self.assertEqual(
            crossing([("a", "b"), ("c", "d"), ("a", "c")]), [("a", "c"), ("a", "d"), ("b", "c")]
        )

    def test_a_string_twice_in_a_tuple(self):
        self.assertEqual(crossing([("a", "a")]), [("a",)])
        self.assertEqual(crossing([("b", "a", "b"), ("c", "c")]), [("a", "c"), ("b", "c")])

    def test_a_tuple_twice(self):
        self.assertEqual(crossing([("a", "b"), ("a", "b"), ("b", "a")]), [("a",), ("b",)])

    def test_smaller_ones_first(self):
        sets = [("needs0", "supply"), ("choice", "supply"), ("gaps0", "supply")]
        self.assertEqual(crossing(sets), [("supply",), ("choice", "gaps0", "needs0")])

    def test_eight_strings(self):
        names = "choice gaps0 gaps1 gaps2 needs0 needs1 needs2 supply".split()
        self.assertEqual(crossing([tuple(names)]), [(name,) for name in names])
        self.assertEqual(crossing([(name,) for name in names]), [tuple(names)])

    def test_the_list_stays(self):
        sets = [("b", "a"), ("c",)]
        crossing(sets)
        self.assertEqual(sets, [("b", "a"), ("c",)])

    def test_against_all_sets(self):
        for seed in range(200):
            draw = random.Random(seed)
            names = draw.sample("abcdefgh", draw.randint(1, 6))
            sets = [tuple(draw.choices(names, k=draw.randint(1, 4))) for _ in range(draw.randint(0, 5))]
            told = least([one for one in subsets(names) if all(set(one) & set(other) for other in sets)])
            self.assertEqual(crossing(sets), told)

    def test_crossing_twice_gives_the_least_sets_again(self):
        for core, promise in ((TWO, Fed(0)), (OPEN, Due(1)), (PAIR, Due(0)), (PAIR, Free())):
            sets = least_sets(core, promise)
            self.assertEqual(crossing(crossing(sets)), sets)


if __name__ == "__main__":
    unittest.main()

"""Point 25, and what point 2 says of rates."""

import math
import unittest

from firstbreach.rates import Rate, rate, shares
from firstbreach.supplies import Supply
from firstbreach.windows import parting
from samples import drawn_supply, follow, states_that_come

ALWAYS = Supply.always()
NEVER = Supply(1, [(0, 0, 0)])


def least_mean(supply):
    """The least mean of all loops that pass no state twice, as a pair in lowest terms."""
    means = []

    def go(first, state, given, length, passed):
        for one, tick, goal in supply.steps:
            if one == state and goal == first:
                means.append((given + tick, length + 1))
            elif one == state and goal not in passed:
                go(first, goal, given + tick, length + 1, passed | {goal})

    for state in states_that_come(supply):
        go(state, state, 0, 0, {state})
    least = means[0]
    for given, ticks in means:
        if given * least[1] < least[0] * ticks:
            least = (given, ticks)
    common = math.gcd(*least)
    return (least[0] // common, least[1] // common)


class RateCase(unittest.TestCase):
    def check(self, supply):
        told = rate(supply)
        self.assertIsInstance(told, Rate)
        self.assertEqual(math.gcd(told.given, told.ticks), 1)
        self.assertGreaterEqual(len(told.loop), 1)
        self.assertEqual(sum(told.loop) * told.ticks, told.given * len(told.loop))
        self.assertIs(type(told.lead), tuple)
        self.assertIs(type(told.loop), tuple)
        # From some state that lead leads to, loop leads back to it.
        led = follow(supply.steps, supply.starts, told.lead)
        self.assertTrue(any(state in follow(supply.steps, [state], told.loop) for state in led))
        self.assertEqual(set(told.numbers), states_that_come(supply))
        self.assertIs(type(told.numbers), dict)
        for state, tick, goal in supply.steps:
            if state in told.numbers:
                most = told.numbers[state] + told.ticks * tick - told.given
                self.assertLessEqual(told.numbers[goal], most)
        return told


class RateTest(RateCase):
    def test_mean_0_and_mean_1(self):
        told = self.check(NEVER)
        self.assertEqual((told.given, told.ticks, told.lead, told.loop), (0, 1, (), (0,)))
        told = self.check(ALWAYS)
        self.assertEqual((told.given, told.ticks, told.lead, told.loop), (1, 1, (), (1,)))
        told = self.check(Supply(3, [(0, 1, 1), (1, 1, 2), (2, 1, 0)]))
        self.assertEqual((told.given, told.ticks), (1, 1))
        told = self.check(Supply.share(0, 4))
        self.assertEqual((told.given, told.ticks), (0, 1))

    def test_shares(self):
        for p in range(1, 9):
            for q in range(p + 1):
                told = self.check(Supply.share(q, p))
                common = math.gcd(q, p)
                self.assertEqual((told.given, told.ticks), (q // common, p // common))

    def test_lowest_terms(self):
        told = self.check(Supply(4, [(0, 1, 1), (1, 0, 2), (2, 1, 3), (3, 0, 0)]))
        self.assertEqual((told.given, told.ticks), (1, 2))

    def test_several_starts(self):
        steps = [(0, 1, 0), (1, 1, 2), (2, 0, 1)]
        told = self.check(Supply(3, steps, starts=(0, 1)))
        self.assertEqual((told.given, told.ticks), (1, 2))
        told = self.check(Supply(3, steps, starts=(0,)))
        self.assertEqual((told.given, told.ticks, told.numbers), (1, 1, {0: told.numbers[0]}))

    def test_states_that_cannot_come(self):
        told = self.check(Supply(3, [(0, 1, 0), (0, 1, 1), (1, 1, 0), (2, 0, 2), (2, 0, 0)]))
        self.assertEqual((told.given, told.ticks), (1, 1))

    def test_a_loop_that_is_led_to(self):
        told = self.check(Supply(4, [(0, 1, 1), (1, 1, 2), (2, 0, 2), (0, 1, 3), (3, 1, 0)]))
        self.assertEqual((told.given, told.ticks, told.lead, told.loop), (0, 1, (1, 1), (0,)))

    def test_the_least_of_several_loops(self):
        # Loops: 0 of mean 2/3 by 1 and 2, 1 of mean 1/2 by 3.
        supply = Supply(4, [(0, 1, 1), (1, 1, 2), (2, 0, 0), (1, 0, 3), (3, 1, 1)])
        told = self.check(supply)
        self.assertEqual((told.given, told.ticks), (1, 2))

    def test_drawn_supplies(self):
        means = set()
        for seed in range(250):
            supply = drawn_supply(seed, 7)
            told = self.check(supply)
            self.assertEqual((told.given, told.ticks), least_mean(supply), seed)
            means.add((told.given, told.ticks))
        self.assertGreater(len(means), 4)

    def test_many_states(self):
        for turn in (1, -1):
            steps = [(state, int(state % 10 < 3), (state + turn) % 2000) for state in range(2000)]
            told = self.check(Supply(2000, steps))
            self.assertEqual((told.given, told.ticks), (3, 10))

    def test_what_is_returned_is_new(self):
        rate(ALWAYS).numbers.clear()
        self.assertEqual(list(rate(ALWAYS).numbers), [0])


class SharesTest(unittest.TestCase):
    def test_where_q_is_p(self):
        self.assertEqual(shares(ALWAYS, 3), [(1, 1, None), (2, 2, None), (3, 3, None)])
        self.assertEqual(shares(ALWAYS, 8)[7], (8, 8, None))

    def test_where_nothing_is_given(self):
        self.assertEqual(shares(NEVER, 2), [(1, 0, (0,)), (2, 0, (0, 0))])

    def test_a_share(self):
        told = shares(Supply.share(1, 2), 4)
        self.assertEqual(told, [(1, 0, (0,)), (2, 1, (0,)), (3, 1, (0, 1, 0)), (4, 2, (0, 1, 0))])

    def test_each_triple(self):
        for seed in range(60):
            supply = drawn_supply(seed)
            told = shares(supply, 5)
            self.assertIs(type(told), list)
            self.assertEqual([p for p, _, _ in told], [1, 2, 3, 4, 5])
            for p, q, word in told:
                self.assertTrue(supply.within(Supply.share(q, p)))
                if q == p:
                    self.assertIsNone(word)
                else:
                    self.assertEqual(word, parting(supply, Supply.share(q + 1, p)))
                    self.assertIsNotNone(word)

    def test_somewhat_longer_periods(self):
        told = shares(Supply.share(1, 2), 10)
        self.assertEqual([(p, q) for p, q, _ in told], [(p, p // 2) for p in range(1, 11)])
        self.assertEqual(shares(ALWAYS, 0), [])

    def test_all_periods(self):
        for p in range(1, 9):
            for q in range(p + 1):
                self.assertEqual(shares(Supply.share(q, p), 8)[p - 1][:2], (p, q))


if __name__ == "__main__":
    unittest.main()

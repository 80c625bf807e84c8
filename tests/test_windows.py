"""Point 24, and what point 2 says of windows."""

import unittest

from firstbreach.supplies import Supply
from firstbreach.windows import delay, least_given, most_given, parting, poorest
from samples import drawn_supply, windows_of, words_of

ALWAYS = Supply.always()
NEVER = Supply(1, [(0, 0, 0)])
# From start 0 the ticks are 1 0 0 1 0 0 .., from start 3 they are all 1; state 4 cannot come.
MIXED = Supply(5, [(0, 1, 1), (1, 0, 2), (2, 0, 0), (3, 1, 3), (4, 0, 4)], starts=(0, 3))


def first_word_outside(a, b, most):
    for count in range(most + 1):
        others = set(words_of(b, count))
        for word in words_of(a, count):
            if word not in others:
                return word
    return None


class PartingTest(unittest.TestCase):
    def test_none_within(self):
        self.assertIsNone(parting(ALWAYS, ALWAYS))
        self.assertIsNone(parting(ALWAYS, Supply.share(3, 7)))
        self.assertIsNone(parting(Supply.share(1, 2), Supply.share(2, 4)))

    def test_the_first_of_the_shortest_words(self):
        self.assertEqual(parting(Supply.share(0, 1), ALWAYS), (0,))
        self.assertEqual(parting(ALWAYS, NEVER), (1,))
        self.assertEqual(parting(Supply.share(1, 2), Supply.share(2, 2)), (0,))
        self.assertEqual(parting(Supply.share(2, 4), Supply.share(1, 2)), (0, 0))
        self.assertEqual(parting(MIXED, ALWAYS), (1, 0))
        self.assertEqual(parting(Supply.share(1, 3), Supply.share(2, 3)), (0, 0))

    def test_a_first_word_that_begins_later(self):
        a = Supply(4, [(0, 0, 1), (0, 1, 2), (1, 1, 3), (2, 0, 3), (3, 1, 3)])
        b = Supply(4, [(0, 0, 1), (0, 1, 2), (1, 1, 3), (2, 1, 3), (3, 1, 3)])
        self.assertEqual(parting(a, b), (1, 0))
        self.assertEqual(parting(b, a), (1, 1))

    def test_the_word_is_a_tuple(self):
        self.assertIs(type(parting(MIXED, ALWAYS)), tuple)

    def test_drawn_supplies(self):
        lengths = set()
        for seed in range(300):
            a = drawn_supply(seed)
            b = drawn_supply(seed + 2000)
            expected = first_word_outside(a, b, 10)
            self.assertEqual(parting(a, b), expected, seed)
            self.assertIs(a.within(b), expected is None)
            lengths.add(None if expected is None else len(expected))
        self.assertLessEqual({None, 1, 2, 3, 4}, lengths)


class GivenTest(unittest.TestCase):
    def test_0_ticks(self):
        for supply in (ALWAYS, NEVER, MIXED):
            self.assertEqual((least_given(supply, 0), most_given(supply, 0)), (0, 0))

    def test_several_starts_and_states_that_cannot_come(self):
        self.assertEqual([least_given(MIXED, ticks) for ticks in range(8)], [0, 0, 0, 1, 1, 1, 2, 2])
        self.assertEqual([most_given(MIXED, ticks) for ticks in range(4)], [0, 1, 2, 3])
        ring = Supply(5, MIXED.steps)
        self.assertEqual([most_given(ring, ticks) for ticks in range(8)], [0, 1, 1, 1, 2, 2, 2, 3])

    def test_40_ticks(self):
        self.assertEqual((least_given(ALWAYS, 40), most_given(ALWAYS, 40)), (40, 40))
        self.assertEqual((least_given(NEVER, 40), most_given(NEVER, 40)), (0, 0))
        self.assertEqual((least_given(MIXED, 40), most_given(MIXED, 40)), (13, 40))
        # A window may begin with the last ticks of a period: 0 0 0 and then 35 ticks with 14, and 0 0.
        self.assertEqual(least_given(Supply.share(2, 5), 40), 14)
        self.assertEqual(most_given(Supply.share(2, 5), 40), 40)

    def test_drawn_supplies(self):
        for seed in range(100):
            supply = drawn_supply(seed, 5)
            for ticks in (1, 2, 5, 8):
                sums = [sum(window) for window in windows_of(supply, ticks)]
                self.assertEqual(least_given(supply, ticks), min(sums), seed)
                self.assertEqual(most_given(supply, ticks), max(sums), seed)


class PoorestTest(unittest.TestCase):
    def check(self, supply, ticks):
        told = poorest(supply, ticks)
        self.assertIs(type(told), tuple)
        lead, window = told
        self.assertIs(type(lead), tuple)
        self.assertIs(type(window), tuple)
        self.assertEqual(len(window), ticks)
        self.assertEqual(sum(window), least_given(supply, ticks))
        self.assertTrue(lead + window in supply)
        return told

    def test_windows(self):
        self.assertEqual(self.check(ALWAYS, 3)[1], (1, 1, 1))
        self.assertEqual(self.check(NEVER, 40)[1], (0,) * 40)
        self.assertEqual(self.check(MIXED, 2), ((1,), (0, 0)))
        self.assertEqual(self.check(MIXED, 0)[1], ())
        self.assertEqual(sum(self.check(MIXED, 40)[1]), 13)
        self.assertEqual(self.check(Supply.share(1, 2), 2)[1], (0, 0))

    def test_a_lead_that_is_long(self):
        late = Supply(4, [(0, 1, 1), (1, 1, 2), (2, 1, 3), (3, 0, 3)])
        self.assertEqual(self.check(late, 3), ((1, 1, 1), (0, 0, 0)))

    def test_drawn_supplies(self):
        for seed in range(100):
            supply = drawn_supply(seed, 5)
            for ticks in (0, 1, 4, 7):
                _, window = self.check(supply, ticks)
                self.assertIn(window, windows_of(supply, ticks))


class DelayTest(unittest.TestCase):
    def test_count_0(self):
        for supply in (ALWAYS, NEVER, MIXED):
            self.assertEqual(delay(supply, 0), 0)

    def test_counts(self):
        self.assertEqual([delay(ALWAYS, count) for count in (1, 2, 20)], [1, 2, 20])
        self.assertEqual([delay(MIXED, count) for count in (1, 2, 3, 20)], [3, 6, 9, 60])
        # Of 1 in 2: 1 0 0 1, so every window of 3 ticks has one, and of 5 ticks two.
        self.assertEqual([delay(Supply.share(1, 2), count) for count in (1, 2, 20)], [3, 5, 41])
        self.assertEqual([delay(Supply.share(2, 2), count) for count in (1, 20)], [1, 20])
        self.assertEqual([delay(Supply.share(2, 5), count) for count in (1, 2, 3)], [7, 8, 12])

    def test_somewhat_beyond_the_limits(self):
        self.assertEqual(delay(ALWAYS, 25), 25)
        self.assertEqual((delay(ALWAYS, -1), delay(NEVER, -1)), (0, 0))
        self.assertEqual((least_given(ALWAYS, 45), most_given(ALWAYS, 45)), (45, 45))

    def test_none_where_ticks_can_be_kept_back_for_ever(self):
        for count in (1, 2, 20):
            self.assertIsNone(delay(NEVER, count))
            self.assertIsNone(delay(Supply.share(0, 3), count))
            self.assertIsNone(delay(Supply(2, [(0, 1, 0), (0, 0, 1), (1, 0, 1)]), count))
            self.assertIsNone(delay(Supply(3, [(0, 1, 1), (1, 0, 2), (2, 0, 1)]), count))

    def test_a_loop_that_cannot_come_does_not_count(self):
        self.assertEqual(delay(Supply(2, [(0, 1, 0), (1, 0, 1), (1, 1, 0)]), 4), 4)

    def test_drawn_supplies(self):
        found = set()
        for seed in range(100):
            supply = drawn_supply(seed, 4)
            for count in (1, 2, 3):
                # Without a loop of ticks 0 there are at most 3 of them on end.
                expected = None
                for ticks in range(13):
                    if expected is None and least_given(supply, ticks) >= count:
                        expected = ticks
                self.assertEqual(delay(supply, count), expected, seed)
                found.add(expected)
        self.assertLessEqual({None, 1, 2, 3, 4, 5, 6}, found)

    def test_many_states(self):
        size = 5000
        ring = Supply(size, [(state, 1 if state == 0 else 0, (state + 1) % size) for state in range(size)])
        self.assertEqual(delay(ring, 20), 20 * size)
        self.assertEqual(poorest(ring, 40)[1], (0,) * 40)


if __name__ == "__main__":
    unittest.main()

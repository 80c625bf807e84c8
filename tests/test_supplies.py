"""Points 3 to 6, and what point 2 says of supplies."""

import unittest

from firstbreach.errors import InvalidSupply, NothingCommon
from firstbreach.supplies import Supply
from samples import all_words, drawn_supply, follow, states_that_come, words_of


def ring(size):
    return [(state, 1, (state + 1) % size) for state in range(size)]


# Starts 0 and 1; state 3 cannot come; state 2 stays for ever.
BRANCHED = ((0, 0, 1), (0, 1, 0), (0, 1, 2), (1, 1, 2), (2, 0, 2), (3, 1, 0))


class BuildingTest(unittest.TestCase):
    def test_attributes_are_ascending_tuples(self):
        supply = Supply(3, [(2, 1, 0), (0, 1, 1), (1, 0, 2), (0, 0, 2)], starts=[2, 0])
        self.assertEqual(supply.size, 3)
        self.assertEqual(supply.steps, ((0, 0, 2), (0, 1, 1), (1, 0, 2), (2, 1, 0)))
        self.assertEqual(supply.starts, (0, 2))
        self.assertIs(type(supply.steps), tuple)
        self.assertIs(type(supply.starts), tuple)

    def test_the_start_is_state_0_unless_another_is_named(self):
        self.assertEqual(Supply(2, ring(2)).starts, (0,))
        self.assertEqual(Supply(2, ring(2), starts=(1,)).starts, (1,))

    def test_lists_and_tuples_stand_for_each_other(self):
        one = Supply(2, [(0, 1, 1), (1, 0, 0)], starts=[1])
        other = Supply(2, ((0, 1, 1), (1, 0, 0)), starts=(1,))
        self.assertEqual((one.steps, one.starts), (other.steps, other.starts))

    def test_lists_handed_in_stay_and_may_change_afterwards(self):
        steps = [(1, 0, 0), (0, 1, 1)]
        starts = [1, 0]
        supply = Supply(2, steps, starts=starts)
        self.assertEqual(steps, [(1, 0, 0), (0, 1, 1)])
        self.assertEqual(starts, [1, 0])
        steps.append((0, 0, 0))
        starts.clear()
        self.assertEqual(supply.steps, ((0, 1, 1), (1, 0, 0)))
        self.assertEqual(supply.starts, (0, 1))
        self.assertEqual(list(supply.words(2)), [(0, 1), (1, 0)])

    def test_1_and_5000_states(self):
        self.assertEqual(Supply(1, ring(1)).size, 1)
        self.assertEqual(Supply(5000, ring(5000)).size, 5000)

    def assert_invalid(self, size, steps, **more):
        with self.assertRaises(InvalidSupply):
            Supply(size, steps, **more)

    def test_0_and_5001_states(self):
        self.assert_invalid(5001, ring(5001))
        self.assert_invalid(0, [], starts=())
        self.assert_invalid(0, [])
        self.assert_invalid(-1, [])

    def test_no_start(self):
        self.assert_invalid(1, ring(1), starts=())
        self.assert_invalid(1, ring(1), starts=[])

    def test_a_state_without_a_step(self):
        self.assert_invalid(2, [(0, 1, 1)])
        self.assert_invalid(2, [(1, 1, 1)])
        self.assert_invalid(3, [(0, 1, 1), (1, 0, 2), (0, 0, 2)])
        self.assert_invalid(1, [])

    def test_a_state_that_does_not_exist(self):
        self.assert_invalid(2, ring(2) + [(2, 1, 0)])
        self.assert_invalid(2, [(0, 1, 1), (2, 1, 0)])
        self.assert_invalid(2, [(0, 1, 1), (-1, 1, 0)])
        self.assert_invalid(2, ring(2) + [(0, 1, 2)])
        self.assert_invalid(2, ring(2) + [(-1, 1, 0)])
        self.assert_invalid(2, ring(2) + [(0, 1, -1)])
        self.assert_invalid(2, ring(2), starts=(0, 2))
        self.assert_invalid(2, ring(2), starts=(-1,))

    def test_a_tick_that_does_not_exist(self):
        self.assert_invalid(2, ring(2) + [(0, 2, 0)])
        self.assert_invalid(2, ring(2) + [(0, -1, 0)])

    def test_a_step_or_a_start_twice(self):
        self.assert_invalid(2, ring(2) + [(0, 1, 1)])
        self.assert_invalid(2, ring(2), starts=(0, 1, 0))


class WordsTest(unittest.TestCase):
    def test_after(self):
        supply = Supply(4, BRANCHED, starts=(0, 1))
        self.assertEqual(supply.after((0,), 1), (0, 2))
        self.assertEqual(supply.after([1, 0], 1), (0, 2))
        self.assertEqual(supply.after((2, 0), 0), (1, 2))
        self.assertEqual(supply.after((1,), 0), ())
        self.assertEqual(supply.after((), 1), ())
        self.assertEqual(supply.after([3], 1), (0,))
        self.assertIs(type(supply.after([0], 1)), tuple)

    def test_after_is_ascending(self):
        steps = [(0, 1, 9), (0, 1, 8), (0, 1, 3)] + [(state, 0, 0) for state in range(1, 10)]
        self.assertEqual(Supply(10, steps).after([0], 1), (3, 8, 9))

    def test_after_keeps_its_argument(self):
        states = [1, 0]
        Supply(4, BRANCHED).after(states, 1)
        self.assertEqual(states, [1, 0])

    def test_words_begin_at_any_start(self):
        supply = Supply(4, BRANCHED, starts=(0, 1))
        self.assertEqual(list(supply.words(0)), [()])
        self.assertEqual(list(supply.words(1)), [(0,), (1,)])
        self.assertEqual(list(supply.words(2)), [(0, 1), (1, 0), (1, 1)])
        self.assertTrue(() in supply)
        self.assertTrue((1, 0, 0) in supply)
        self.assertFalse((0, 0) in supply)
        self.assertFalse((1, 0, 0, 1, 1) in supply)

    def test_words_of_drawn_supplies(self):
        for seed in range(60):
            supply = drawn_supply(seed)
            for count in range(7):
                self.assertEqual(list(supply.words(count)), words_of(supply, count), seed)
            for word in all_words(5):
                self.assertIs(word in supply, bool(follow(supply.steps, supply.starts, word)), seed)

    def test_words_of_8_ticks(self):
        free = Supply(1, [(0, 0, 0), (0, 1, 0)])
        self.assertEqual(list(free.words(8)), all_words(8))

    def test_always(self):
        supply = Supply.always()
        self.assertEqual((supply.size, supply.steps, supply.starts), (1, ((0, 1, 0),), (0,)))
        self.assertEqual(list(supply.words(3)), [(1, 1, 1)])
        self.assertIs(type(supply), Supply)


class ReachedTest(unittest.TestCase):
    def test_states_that_cannot_come_are_left_out(self):
        self.assertEqual(Supply(4, BRANCHED).reached(), (0, 1, 2))
        self.assertEqual(Supply(4, BRANCHED, starts=(2,)).reached(), (2,))
        self.assertEqual(Supply(4, BRANCHED, starts=(1,)).reached(), (1, 2))
        self.assertEqual(Supply(4, BRANCHED, starts=(3,)).reached(), (0, 1, 2, 3))
        self.assertEqual(Supply(4, BRANCHED, starts=(2, 1)).reached(), (1, 2))

    def test_a_start_can_come(self):
        self.assertEqual(Supply(2, [(0, 1, 1), (1, 1, 1)]).reached(), (0, 1))

    def test_drawn_supplies(self):
        for seed in range(60):
            supply = drawn_supply(seed, 6)
            self.assertEqual(supply.reached(), tuple(sorted(states_that_come(supply))))


def keeps_share(q, p, word):
    """Whether the word can go on so that each period of p ticks has at least q given ones."""
    for at in range(0, len(word), p):
        period = word[at:at + p]
        if sum(period) + p - len(period) < q:
            return False
    return True


class ShareTest(unittest.TestCase):
    def test_the_numbers_of_the_states(self):
        supply = Supply.share(1, 2)
        self.assertEqual(supply.size, 3)
        self.assertEqual(supply.steps, ((0, 0, 1), (0, 1, 2), (1, 1, 0), (2, 0, 0), (2, 1, 0)))
        self.assertEqual(supply.starts, (0,))
        supply = Supply.share(2, 4)
        self.assertEqual(supply.size, 8)
        # 0 (0,0), 1 (1,0), 2 (1,1), 3 (2,0), 4 (2,1), 5 (2,2), 6 (3,1), 7 (3,2)
        steps = (
            (0, 0, 1), (0, 1, 2), (1, 0, 3), (1, 1, 4), (2, 0, 4), (2, 1, 5), (3, 1, 6),
            (4, 0, 6), (4, 1, 7), (5, 0, 7), (5, 1, 7), (6, 1, 0), (7, 0, 0), (7, 1, 0),
        )
        self.assertEqual(supply.steps, steps)
        self.assertEqual(supply.starts, (0,))

    def test_nothing_and_all(self):
        self.assertEqual(Supply.share(0, 2).steps, ((0, 0, 1), (0, 1, 1), (1, 0, 0), (1, 1, 0)))
        self.assertEqual(Supply.share(3, 3).steps, ((0, 1, 1), (1, 1, 2), (2, 1, 0)))
        self.assertEqual(Supply.share(0, 1).steps, ((0, 0, 0), (0, 1, 0)))
        self.assertEqual(Supply.share(1, 1).steps, ((0, 1, 0),))

    def test_the_words_of_all_shares(self):
        for p in range(1, 9):
            for q in range(p + 1):
                supply = Supply.share(q, p)
                self.assertIs(type(supply), Supply)
                for count in (1, 3, 8):
                    expected = [word for word in all_words(count) if keeps_share(q, p, word)]
                    self.assertEqual(list(supply.words(count)), expected, (q, p))
                word = (0,) * (p - q) + (1,) * (2 * q) + (0,) * (p - q)
                self.assertTrue(word in supply)
                self.assertTrue(word + word in supply)
                if q > 0:
                    self.assertFalse(word + (0,) * (p - q + 1) in supply)

    def test_the_number_of_states(self):
        for p in range(1, 9):
            for q in range(p + 1):
                pairs = [(i, k) for i in range(p) for k in range(q + 1) if k <= i and q - k <= p - i]
                self.assertEqual(Supply.share(q, p).size, len(pairs))

    def test_other_shares(self):
        for q, p in ((0, 0), (1, 0), (0, 9), (4, 9), (9, 9), (-1, 4), (5, 4), (2, 1), (0, -1), (-1, 1), (9, 8)):
            with self.assertRaises(InvalidSupply):
                Supply.share(q, p)


class WithinTest(unittest.TestCase):
    def test_both_directions(self):
        always = Supply.always()
        half = Supply.share(1, 2)
        self.assertIs(always.within(half), True)
        self.assertIs(half.within(always), False)
        self.assertTrue(half.within(half))
        self.assertTrue(Supply.share(2, 4).within(Supply.share(1, 4)))
        self.assertFalse(Supply.share(1, 4).within(Supply.share(2, 4)))
        self.assertTrue(Supply.share(1, 2).within(Supply.share(2, 4)))
        self.assertFalse(Supply.share(2, 4).within(Supply.share(1, 2)))

    def test_states_that_cannot_come_do_not_count(self):
        self.assertTrue(Supply(2, [(0, 1, 0), (1, 0, 0)]).within(Supply.always()))
        self.assertFalse(Supply(2, [(0, 1, 0), (1, 0, 0)], starts=(1,)).within(Supply.always()))

    def test_every_start_counts(self):
        steps = [(0, 1, 0), (1, 0, 1)]
        both = Supply(2, steps, starts=(0, 1))
        self.assertTrue(Supply(2, steps, starts=(0,)).within(both))
        self.assertTrue(Supply(2, steps, starts=(1,)).within(both))
        self.assertFalse(both.within(Supply(2, steps)))

    def test_several_steps_with_one_tick(self):
        # The other one needs several states at a time to follow a word.
        one = Supply(1, [(0, 0, 0), (0, 1, 0)])
        two = Supply(2, [(0, 0, 0), (0, 0, 1), (0, 1, 0), (1, 1, 1)])
        self.assertTrue(one.within(two))
        self.assertTrue(two.within(one))

    def test_drawn_supplies(self):
        found = set()
        for seed in range(150):
            a = drawn_supply(seed)
            b = drawn_supply(seed + 1000)
            expected = set(words_of(a, 9)) <= set(words_of(b, 9))
            self.assertIs(a.within(b), expected, seed)
            found.add(expected)
        self.assertEqual(found, {True, False})


class CommonTest(unittest.TestCase):
    def test_words_of_shares(self):
        both = Supply.share(1, 2) & Supply.share(2, 3)
        self.assertIs(type(both), Supply)
        for count in range(9):
            expected = [w for w in all_words(count) if keeps_share(1, 2, w) and keeps_share(2, 3, w)]
            self.assertEqual(list(both.words(count)), expected)

    def test_common_words_that_end_are_left_out(self):
        # Words of a: 1 1 1 .. or 0 0 0 ..; of b: 1 1 1 .. or 0 1 1 ..
        a = Supply(3, [(0, 1, 1), (0, 0, 2), (1, 1, 1), (2, 0, 2)])
        b = Supply(2, [(0, 1, 1), (0, 0, 1), (1, 1, 1)])
        both = a & b
        self.assertTrue((0,) in a and (0,) in b)
        self.assertFalse((0,) in both)
        self.assertEqual(list(both.words(1)), [(1,)])
        self.assertEqual(list(both.words(4)), [(1, 1, 1, 1)])

    def test_common_words_that_end_late(self):
        late = Supply(4, [(0, 1, 1), (1, 1, 2), (2, 1, 3), (3, 0, 3)])
        with self.assertRaises(NothingCommon):
            late & Supply.always()
        with self.assertRaises(NothingCommon):
            Supply.always() & late

    def test_nothing_common_from_the_first_tick(self):
        with self.assertRaises(NothingCommon):
            Supply.always() & Supply(1, [(0, 0, 0)])

    def test_several_starts(self):
        a = Supply(2, [(0, 1, 0), (1, 0, 1)], starts=(0, 1))
        b = Supply(3, [(0, 0, 1), (1, 1, 1), (2, 0, 2)], starts=(0, 2))
        both = a & b
        self.assertEqual(list(both.words(3)), [(0, 0, 0)])

    def test_states_that_cannot_come(self):
        a = Supply(2, [(0, 1, 0), (1, 0, 1)])
        b = Supply(2, [(0, 1, 0), (0, 0, 1), (1, 0, 1)])
        self.assertEqual(list((a & b).words(2)), [(1, 1)])

    def test_many_pairs(self):
        both = Supply(70, ring(70)) & Supply(71, ring(71))
        self.assertEqual(len(both.reached()), 4970)
        wide = Supply(71, ring(71), starts=list(range(71))) & Supply(70, ring(70), starts=list(range(70)))
        self.assertEqual(len(wide.reached()), 4970)

    def test_drawn_supplies(self):
        found = set()
        for seed in range(200):
            a = drawn_supply(seed, 3)
            b = drawn_supply(seed + 500, 3)
            # There are at most 9 pairs of states, so what goes on for 10 ticks goes on for ever.
            first, last = [set(words_of(a, count)) & set(words_of(b, count)) for count in (3, 13)]
            expected = sorted({word[:3] for word in last})
            if expected:
                self.assertEqual(list((a & b).words(3)), expected, seed)
            else:
                with self.assertRaises(NothingCommon):
                    a & b
            found.add((len(expected) > 0, len(expected) < len(first)))
        self.assertLessEqual({(True, True), (True, False), (False, False)}, found)


class EitherTest(unittest.TestCase):
    def test_words_of_both(self):
        either = Supply.always() | Supply(1, [(0, 0, 0)])
        self.assertIs(type(either), Supply)
        self.assertEqual(list(either.words(3)), [(0, 0, 0), (1, 1, 1)])

    def test_several_starts_and_states_that_cannot_come(self):
        a = Supply(4, BRANCHED, starts=(1, 2))
        b = Supply(3, [(0, 1, 0), (1, 0, 2), (2, 1, 1)], starts=(2, 1))
        either = a | b
        for count in range(6):
            self.assertEqual(list(either.words(count)), sorted(set(words_of(a, count)) | set(words_of(b, count))))

    def test_drawn_supplies(self):
        for seed in range(80):
            a = drawn_supply(seed)
            b = drawn_supply(seed + 300)
            for count in (1, 2, 5):
                expected = sorted(set(words_of(a, count)) | set(words_of(b, count)))
                self.assertEqual(list((a | b).words(count)), expected, seed)

    def test_5000_states(self):
        self.assertTrue((1,) * 9 in Supply(2500, ring(2500)) | Supply(2500, ring(2500)))

    def test_the_parts_stay_as_they_were(self):
        a = Supply(4, BRANCHED, starts=(0, 1))
        b = Supply.share(1, 2)
        told = [(s.size, s.steps, s.starts, s.reached(), list(s.words(4))) for s in (a, b)]
        a & b
        a | b
        a.within(b)
        self.assertEqual([(s.size, s.steps, s.starts, s.reached(), list(s.words(4))) for s in (a, b)], told)


if __name__ == "__main__":
    unittest.main()

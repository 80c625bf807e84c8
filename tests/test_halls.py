"""Points 40 and 41, and what point 2 says of halls."""

import itertools
import random
import unittest

from firstbreach.errors import BadAct, InvalidHall
from firstbreach.halls import Hall, Taking

RULES = ("again", "any", "half")


def told_acts(hall, position):
    """All possible acts, told by the words of point 41."""
    found = []
    for core in range(len(hall.queues)):
        for pick in range(-1, 3):
            one = told_act(hall, position, core, pick)
            if one is not None:
                found.append(one)
    return found


def may_take(hall, own, other):
    least = hall.taking.least
    return own < len(least) and least[own] > 0 and other >= least[own]


def told_act(hall, position, core, pick):
    queues = [list(queue) for queue in position[0]]
    looks = list(position[1])
    rules = hall.taking.rules
    looked = looks[core]
    if looked != -1:
        if pick != -1:
            return None
        looks[core] = -1
        own, other = queues[core], queues[looked]
        if other and not ("again" in rules and not may_take(hall, len(own), len(other))):
            count = max((len(other) - len(own)) // 2, 1) if "half" in rules else 1
            for _ in range(count):
                own.insert(len(position[0][core]), other.pop())
    else:
        allowed = [q for q in range(len(queues)) if q != core and may_take(hall, len(queues[core]), len(queues[q]))]
        if allowed and "any" not in rules:
            allowed = [min(allowed, key=lambda q: (-len(queues[q]), q))]
        if pick not in (allowed or [-1]):
            return None
        looks[core] = pick
    ran, wasted = -1, 0
    if queues[core]:
        ran = queues[core].pop(0)
        queues[core].append(ran)
    elif any(len(queue) >= 2 for queue in queues):
        wasted = 1
    return (core, pick, (tuple(tuple(queue) for queue in queues), tuple(looks)), ran, wasted)


def drawn_position(draw, tasks, cores):
    numbers = draw.sample(range(tasks), tasks)
    queues = [[] for _ in range(cores)]
    for number in numbers:
        draw.choice(queues).append(number)
    looks = [draw.choice([-1] + [q for q in range(cores) if q != core]) for core in range(cores)]
    return (tuple(tuple(queue) for queue in queues), tuple(looks))


def drawn_hall(seed):
    draw = random.Random(seed)
    tasks, cores = draw.randint(0, 5), draw.randint(1, 3)
    least = [draw.choice((0, 1, 1, 2, 2, 3, 4, 5)) for _ in range(draw.randint(1, 5))]
    taking = Taking(least, *draw.sample(RULES, draw.randint(0, 3)))
    return Hall(drawn_position(draw, tasks, cores)[0], taking)


class TakingTest(unittest.TestCase):
    def test_attributes(self):
        taking = Taking([2, 0, 5], "half", "again")
        self.assertEqual((taking.least, taking.rules), ((2, 0, 5), ("again", "half")))
        self.assertEqual(Taking((0,)).rules, ())
        self.assertEqual(Taking([5] * 5, "any", "half", "again").rules, RULES)
        least = [1]
        taking = Taking(least)
        least.append(9)
        self.assertEqual(taking.least, (1,))

    def test_wrong_lists(self):
        for least in ([], [1] * 6, [6], [-1], [0, 1, 6], [2, -1, 2]):
            with self.assertRaises(InvalidHall):
                Taking(least)

    def test_wrong_rules(self):
        for rules in (("all",), ("",), ("any", "any"), ("half", "again", "half"), ("any", "lend"), ("Any",)):
            with self.assertRaises(InvalidHall):
                Taking([1], *rules)


class HallTest(unittest.TestCase):
    TAKING = Taking([2])

    def test_attributes(self):
        hall = Hall([[1, 0], (), [2]], self.TAKING)
        self.assertEqual(hall.queues, ((1, 0), (), (2,)))
        self.assertIs(hall.taking, self.TAKING)
        self.assertEqual(hall.start(), (((1, 0), (), (2,)), (-1, -1, -1)))
        self.assertEqual(Hall([()], self.TAKING).start(), (((),), (-1,)))
        self.assertEqual(len(Hall(((4, 3, 2, 1, 0),), self.TAKING).queues), 1)

    def test_a_list_that_is_passed_is_copied(self):
        queues = [[0], [1]]
        hall = Hall(queues, self.TAKING)
        queues[0].append(2)
        queues.append([])
        self.assertEqual(hall.queues, ((0,), (1,)))

    def test_wrong_queues(self):
        for queues in (
            [], [[0], [], [], []], [[], [], [], []], [[0, 1, 2, 3, 4, 5]], [[0, 1, 2], [3, 4, 5]],
            [[1]], [[0], [0]], [[0, 0]], [[0, 2]], [[-1, 0]], [[0, 1], [1]], [[0], [3]],
        ):
            with self.assertRaises(InvalidHall):
                Hall(queues, self.TAKING)


class ActTest(unittest.TestCase):
    def test_a_look_and_a_take(self):
        hall = Hall([[0, 1, 2], []], Taking([2]))
        position = hall.start()
        expected = (((0, 1, 2), ()), (-1, 0))
        self.assertEqual(hall.act(position, 1, 0), (1, 0, expected, -1, 1))
        position = expected
        self.assertEqual(hall.act(position, 1, -1), (1, -1, (((0, 1), (2,)), (-1, -1)), 2, 0))
        self.assertEqual(hall.act(position, 0, -1), (0, -1, (((1, 2, 0), ()), (-1, 0)), 0, 0))

    def test_no_queue_to_take_from(self):
        hall = Hall([[0], []], Taking([2]))
        self.assertEqual(hall.acts(hall.start()), [(0, -1, (((0,), ()), (-1, -1)), 0, 0), (1, -1, hall.start(), -1, 0)])

    def test_a_core_with_tasks_looks_and_runs(self):
        hall = Hall([[0], [1, 2, 3]], Taking([1, 3]))
        self.assertEqual(hall.act(hall.start(), 0, 1), (0, 1, (((0,), (1, 2, 3)), (1, -1)), 0, 0))
        hall = Hall([[0], [1, 2, 3]], Taking([1, 4]))
        self.assertEqual(hall.act(hall.start(), 0, -1)[1], -1)

    def test_least_shorter_than_a_queue_and_an_entry_0(self):
        for least, picks in (([1], [-1]), ([1, 0], [-1]), ([0, 1], [1]), ([1, 2], [1]), ([1, 3], [-1]), ([0, 0, 1], [-1])):
            hall = Hall([[0], [1, 2]], Taking(least))
            self.assertEqual([act[1] for act in hall.acts(hall.start()) if act[0] == 0], picks, least)
        hall = Hall([[], [1, 2, 0]], Taking([0]))
        self.assertEqual(hall.acts(hall.start())[0], (0, -1, hall.start(), -1, 1))

    def test_the_longest_queue_or_any(self):
        hall = Hall([[], [0], [1, 2]], Taking([1]))
        self.assertEqual([act[:2] for act in hall.acts(hall.start())][:1], [(0, 2)])
        hall = Hall([[], [0], [1, 2]], Taking([1], "any"))
        self.assertEqual([act[:2] for act in hall.acts(hall.start())], [(0, 1), (0, 2), (1, -1), (2, -1)])
        hall = Hall([[], [0], [1, 2]], Taking([2], "any"))
        self.assertEqual([act[:2] for act in hall.acts(hall.start())][:1], [(0, 2)])
        hall = Hall([[0], [], [1]], Taking([1]))
        self.assertEqual([act[:2] for act in hall.acts(hall.start())], [(0, -1), (1, 0), (2, -1)])

    def test_a_look_at_a_queue_that_is_empty_by_now(self):
        for rules in ((), ("half",), ("again",), RULES):
            hall = Hall([[0, 1], []], Taking([1], *rules))
            position = (((), (1, 0)), (1, 0))
            self.assertEqual(hall.act(position, 1, -1), (1, -1, (((), (0, 1)), (1, -1)), 1, 0))
            position = (((), ()), (1, 0))
            hall = Hall([[], []], Taking([1], *rules))
            self.assertEqual(hall.act(position, 0, -1), (0, -1, (((), ()), (-1, 0)), -1, 0))

    def test_a_wasted_act(self):
        hall = Hall([[], [0, 1], []], Taking([1]))
        # The core looked at a queue that is empty by now, and another one has two tasks.
        position = (((), (0, 1), ()), (2, -1, -1))
        self.assertEqual(hall.act(position, 0, -1), (0, -1, (((), (0, 1), ()), (-1, -1, -1)), -1, 1))
        position = (((), (0,), (1,)), (-1, -1, -1))
        self.assertEqual(hall.act(position, 0, 1)[3:], (-1, 0))

    def test_again(self):
        hall = Hall([[], [0, 1]], Taking([2], "again"))
        position = (((), (0, 1)), (1, -1))
        self.assertEqual(hall.act(position, 0, -1)[2:4], ((((1,), (0,)), (-1, -1)), 1))
        hall = Hall([[], [0, 1]], Taking([3], "again"))
        self.assertEqual(hall.act(position, 0, -1)[2:], ((((), (0, 1)), (-1, -1)), -1, 1))
        hall = Hall([[], [0, 1]], Taking([3]))
        self.assertEqual(hall.act(position, 0, -1)[2:], ((((1,), (0,)), (-1, -1)), 1, 0))
        # Its own queue has grown since it looked.
        position = (((1,), (0, 2)), (1, -1))
        self.assertEqual(Hall([[1], [0, 2]], Taking([2], "again")).act(position, 0, -1)[2][0], ((1,), (0, 2)))
        self.assertEqual(Hall([[1], [0, 2]], Taking([2, 2], "again")).act(position, 0, -1)[2][0], ((2, 1), (0,)))

    def test_half(self):
        for own, other, count in ((0, 5, 2), (0, 4, 2), (0, 3, 1), (0, 2, 1), (0, 1, 1), (1, 4, 1), (2, 3, 1), (4, 1, 1), (3, 2, 1)):
            queues = (tuple(range(own)), tuple(range(own, own + other)))
            hall = Hall(queues, Taking([1], "half"))
            present = hall.act((queues, (1, -1)), 0, -1)[2][0]
            taken = queues[0] + queues[1][other - count:]
            self.assertEqual(present, (taken[1:] + taken[:1], queues[1][:other - count]))

    def test_the_order_of_taken_tasks(self):
        hall = Hall([[], [4, 2, 0, 3, 1]], Taking([2], "half"))
        acts = hall.play([(0, 1), (0, -1), (0, -1)])
        self.assertEqual(acts[1], (0, -1, (((1, 3), (4, 2, 0)), (-1, -1)), 3, 0))
        self.assertEqual(acts[2][2][0][0], (3, 1))

    def test_one_queue(self):
        hall = Hall([[1, 0]], Taking([1, 1, 1]))
        self.assertEqual(hall.acts(hall.start()), [(0, -1, (((0, 1),), (-1,)), 1, 0)])
        self.assertEqual(Hall([[]], Taking([1])).acts((((),), (-1,))), [(0, -1, (((),), (-1,)), -1, 0)])

    def test_acts_that_are_not_possible(self):
        hall = Hall([[], [0, 1]], Taking([2]))
        for core, pick in ((0, -1), (0, 0), (0, 2), (1, 0), (1, 1), (-1, -1), (-2, 1), (2, -1), (3, 0), (-1, 1), (0, -2)):
            with self.assertRaises(BadAct) as caught:
                hall.act(hall.start(), core, pick)
            self.assertEqual(caught.exception.index, 0)
        with self.assertRaises(BadAct):
            hall.act((((), (0, 1)), (1, -1)), 0, 1)

    def test_play(self):
        hall = Hall([[], [0, 1]], Taking([2]))
        acts = hall.play([(0, 1), (1, -1), (0, -1)])
        self.assertEqual([act[3:] for act in acts], [(-1, 1), (0, 0), (0, 0)])
        self.assertEqual(acts[-1][2], (((0,), (1,)), (-1, -1)))
        self.assertEqual(hall.play([]), [])
        for good in range(3):
            with self.assertRaises(BadAct) as caught:
                hall.play([(0, 1), (1, -1), (0, -1)][:good] + [(-1, -1), (5, 5)])
            self.assertEqual(caught.exception.index, good)
        with self.assertRaises(BadAct) as caught:
            hall.play([(0, 1), (0, 1)])
        self.assertEqual(caught.exception.index, 1)

    def test_lists_may_stand_for_tuples(self):
        hall = Hall([[], [0, 1]], Taking([2], "half"))
        for looks in ([-1, -1], [1, 0]):
            listed = hall.acts(([[], [0, 1]], looks))
            self.assertEqual(listed, hall.acts((((), (0, 1)), tuple(looks))))


class DrawnTest(unittest.TestCase):
    def test_all_acts_of_drawn_positions(self):
        for seed in range(1500):
            hall = drawn_hall(seed)
            draw = random.Random(seed)
            tasks = sum(len(queue) for queue in hall.queues)
            for position in [hall.start()] + [drawn_position(draw, tasks, len(hall.queues)) for _ in range(4)]:
                acts = hall.acts(position)
                self.assertEqual(acts, told_acts(hall, position))
                possible = {act[:2]: act for act in acts}
                for core, pick in itertools.product(range(-1, 4), range(-2, 4)):
                    if (core, pick) in possible:
                        self.assertEqual(hall.act(position, core, pick), possible[(core, pick)])
                    else:
                        with self.assertRaises(BadAct):
                            hall.act(position, core, pick)


if __name__ == "__main__":
    unittest.main()

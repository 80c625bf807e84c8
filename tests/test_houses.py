"""Point 47, and what point 2 says of houses."""

import random
import unittest

from firstbreach.cores import Core
from firstbreach.errors import BadAct, BadRow, InvalidHouse, UnknownCore
from firstbreach.halls import Hall, Taking
from firstbreach.houses import House
from firstbreach.levels import Level
from firstbreach.settling import settle
from firstbreach.supplies import Supply
from firstbreach.tasks import Task
from plans import drawn_hall_for, drawn_plan

ALWAYS = Supply.always()
IDLE = Level(Core(ALWAYS))
PLAIN = Task.plain(1, 2, 3)
GUEST = Level(Core(ALWAYS, Task.serving(1, 2), PLAIN), {0: Level(Core(Supply.share(1, 2), PLAIN))})

# Joint rows of IDLE that leave their tick over or get none.
OVER = ((1, (), -1, 0), ())
NO_TICK = ((0, (), -1, 0), ())
# Joint rows of GUEST: the server runs, the other task runs, nothing runs.
SERVES = ((1, (0, 0), 0, 0), (((1, (0,), 0, 0), ()),))
WORKS = ((1, (-1, -1), 1, 0), (((0, (-1,), -1, 0), ()),))
RESTS = ((1, (-1, -1), -1, 0), (((0, (-1,), -1, 0), ()),))


def state_of(house):
    """All that a house tells of itself."""
    levels = [(name, house.level_of(name), house.joint_of(name)) for name in house.names]
    return (house.clock, levels, house.position, list(house.breach_ticks().items()), house.wasted)


class HouseTest(unittest.TestCase):
    def test_the_start(self):
        house = House({"b": GUEST, "a": IDLE})
        self.assertEqual(house.names, ["b", "a"])
        self.assertIs(type(house.names), list)
        self.assertIs(house.level_of("b"), GUEST)
        self.assertIs(house.level_of("a"), IDLE)
        self.assertEqual(house.joint_of("b"), GUEST.start())
        self.assertEqual((house.clock, house.wasted, house.position, house.breach_ticks()), (0, 0, None, {}))
        hall = Hall([[0], []], Taking([1]))
        self.assertEqual(House({"b": GUEST, "a": IDLE}, hall).position, hall.start())

    def test_a_dict_that_is_passed_is_copied(self):
        levels = {"a": IDLE}
        house = House(levels)
        levels["b"] = GUEST
        del levels["a"]
        self.assertEqual(house.names, ["a"])
        house.tick({"a": OVER})
        self.assertIs(house.level_of("a"), IDLE)

    def test_unknown_names(self):
        house = House({"a": IDLE})
        for name in ("b", "", "aa"):
            for call in (house.level_of, house.joint_of):
                with self.assertRaises(UnknownCore) as caught:
                    call(name)
                self.assertEqual(caught.exception.name, name)

    def test_plans_that_are_none(self):
        for levels, hall in (
            ({}, None),
            ({name: IDLE for name in "abcd"}, None),
            ({"A": IDLE}, None),
            ({"aaaaaaaaa": IDLE}, None),
            ({"": IDLE}, None),
            ({"a": IDLE}, Hall([[], []], Taking([1]))),
            ({"a": IDLE, "b": IDLE}, Hall([[]], Taking([1]))),
        ):
            with self.assertRaises(InvalidHouse):
                House(levels, hall)


class TickTest(unittest.TestCase):
    def test_all_levels_step(self):
        house = House({"b": GUEST, "a": IDLE})
        self.assertEqual(house.tick({"a": OVER, "b": SERVES}), [])
        self.assertEqual(house.clock, 1)
        self.assertEqual(house.joint_of("b"), GUEST.play([SERVES])[-1])
        self.assertEqual(house.tick({"b": WORKS, "a": NO_TICK}), [])
        self.assertEqual(house.clock, 2)
        self.assertEqual(house.joint_of("b"), GUEST.play([SERVES, WORKS])[-1])
        self.assertEqual(house.joint_of("a"), (((), ()), ()))

    def test_further_names_are_left_aside(self):
        house = House({"a": IDLE})
        house.tick({"a": OVER, "z": SERVES}, picks={"z": 7})
        self.assertEqual(house.clock, 1)

    def test_lists_may_stand_for_tuples(self):
        house = House({"b": GUEST})
        house.tick({"b": ((1, [0, 0], 0, 0), [((1, [0], 0, 0), [])])})
        self.assertEqual(house.joint_of("b"), GUEST.play([SERVES])[-1])
        self.assertEqual(house.breach_ticks(), {})

    def test_several_acts_in_one_tick(self):
        hall = Hall([[0, 1], [], []], Taking([1, 2]))
        house = House({"a": IDLE, "b": IDLE, "c": IDLE}, hall)
        rows = {"a": OVER, "b": OVER, "c": OVER}
        self.assertEqual(house.tick(rows), [("a", 0), ("b", -1), ("c", -1)])
        self.assertEqual(house.position, hall.play([(0, -1), (1, 0), (2, 0)])[-1][2])
        self.assertEqual(house.wasted, 2)
        # The core of b takes the task at the end of the queue, and that of c the one that is left.
        self.assertEqual(house.tick({"a": NO_TICK, "b": OVER, "c": OVER}), [("b", 0), ("c", 1)])
        self.assertEqual(house.position, (((), (0,), (1,)), (-1, -1, -1)))
        self.assertEqual(house.wasted, 2)
        self.assertEqual(house.clock, 2)

    def test_only_ticks_that_are_left_over(self):
        hall = Hall([[0], [1]], Taking([1]))
        house = House({"a": GUEST, "b": IDLE}, hall)
        self.assertEqual(house.tick({"a": SERVES, "b": NO_TICK}), [])
        self.assertEqual(house.position, hall.start())
        self.assertEqual(house.tick({"a": WORKS, "b": OVER}), [("b", 1)])
        self.assertEqual(house.tick({"a": RESTS, "b": NO_TICK}), [("a", 0)])
        # A tick that the guest leaves over is not left over by the top core.
        lent = ((1, (0, 0), 0, 0), (((1, (0,), -1, 0), ()),))
        self.assertEqual(House({"a": GUEST, "b": IDLE}, hall).tick({"a": lent, "b": OVER}), [("b", 1)])

    def test_picks(self):
        hall = Hall([[], [0, 1], [2]], Taking([1], "any"))
        levels = {"a": IDLE, "b": IDLE, "c": IDLE}
        rows = {"a": OVER, "b": NO_TICK, "c": NO_TICK}
        house = House(levels, hall)
        house.tick(rows)
        self.assertEqual(house.position[1], (1, -1, -1))
        house = House(levels, hall)
        self.assertEqual(house.tick(rows, picks={"a": 2}), [("a", -1)])
        self.assertEqual(house.position[1], (2, -1, -1))
        self.assertEqual(house.tick(rows, picks={"a": -1}), [("a", 2)])
        house = House(levels, hall)
        house.tick(rows, picks={"b": 7, "c": 0})
        self.assertEqual(house.position[1], (1, -1, -1))
        house.tick(rows, picks={})
        self.assertEqual(house.position[1], (-1, -1, -1))

    def test_a_house_without_a_hall_leaves_picks_aside(self):
        house = House({"a": IDLE})
        self.assertEqual(house.tick({"a": OVER}, picks={"a": 5}), [])

    def test_a_pick_is_held_against_the_position_when_the_act_is_due(self):
        hall = Hall([[0], []], Taking([1, 0]))
        levels = {"a": IDLE, "b": IDLE}
        rows = {"a": OVER, "b": OVER}
        house = House(levels, hall)
        self.assertEqual(house.tick(rows, picks={"b": 0}), [("a", 0), ("b", -1)])
        # Now b takes the task, and by then a has run it once more.
        self.assertEqual(house.tick(rows, picks={"a": -1, "b": -1}), [("a", 0), ("b", 0)])
        # The queue of a is empty now, so it looks at that of b.
        self.assertEqual(house.tick(rows, picks={"a": 1, "b": -1}), [("a", -1), ("b", 0)])

    def test_drawn_houses(self):
        for seed in range(60):
            levels, hall = drawn_plan(seed, 80)
            draw = random.Random(seed)
            hall = drawn_hall_for(draw, len(levels))
            house = House(levels, hall)
            joints = {name: level.start() for name, level in levels.items()}
            position, wasted, told = hall.start(), 0, {}
            for clock in range(8):
                rows, picks, expected = {}, {}, []
                for name, level in levels.items():
                    rows[name] = draw.choice(list(level.joint_options(joints[name], [])))
                    for path, party in level.breaches(joints[name], rows[name]):
                        told.setdefault((name, path, party), clock)
                    joints[name] = level.after(joints[name], rows[name])
                for core, name in enumerate(levels):
                    if rows[name][0][0] == 1 and rows[name][0][2] == -1:
                        acts = [act for act in hall.acts(position) if act[0] == core]
                        act = acts[0]
                        if draw.random() < 0.5:
                            act = draw.choice(acts)
                            picks[name] = act[1]
                        position = act[2]
                        wasted += act[4]
                        expected.append((name, act[3]))
                self.assertEqual(house.tick(rows, picks=picks), expected)
                self.assertEqual((house.clock, house.position, house.wasted), (clock + 1, position, wasted))
                self.assertEqual({name: house.joint_of(name) for name in levels}, joints)
                order = sorted(told, key=lambda triple: (told[triple], triple))
                self.assertEqual(list(house.breach_ticks().items()), [(triple, told[triple]) for triple in order])
            settled = settle(hall)
            if settled:
                self.assertLessEqual(house.wasted, settled.numbers[hall.start()])


class ErrorsTest(unittest.TestCase):
    HALL = Hall([[], [0, 1]], Taking([2]))

    def house(self):
        house = House({"b": GUEST, "a": IDLE}, self.HALL)
        house.tick({"b": SERVES, "a": OVER})
        house.tick({"b": RESTS, "a": NO_TICK})
        return house

    def bad(self, kind, index, rows, picks=None):
        house = self.house()
        before = state_of(house)
        with self.assertRaises(kind) as caught:
            house.tick(rows, picks=picks)
        self.assertEqual(caught.exception.index, index)
        self.assertEqual(state_of(house), before)

    def test_bad_rows(self):
        self.bad(BadRow, 0, {})
        self.bad(BadRow, 0, {"a": OVER})
        self.bad(BadRow, 1, {"b": RESTS})
        self.bad(BadRow, 0, {"b": OVER, "a": OVER})
        self.bad(BadRow, 1, {"b": RESTS, "a": ((1, (0,), -1, 0), ())})
        self.bad(BadRow, 0, {"b": ((1, (-1, -1), -1, 0), (((1, (-1,), -1, 0), ()),)), "a": ((1, (0,), -1, 0), ())})
        self.bad(BadRow, 1, {"b": RESTS, "a": ((1, (), 0, 0), ()), "c": OVER})

    def test_bad_acts(self):
        # In the second tick b has looked at the queue of a.
        self.assertEqual(self.house().position, (((), (1, 0)), (1, -1)))
        self.bad(BadAct, 0, {"b": RESTS, "a": OVER}, {"b": 1})
        self.bad(BadAct, 1, {"b": RESTS, "a": OVER}, {"a": 0})
        self.bad(BadAct, 1, {"b": RESTS, "a": OVER}, {"b": -1, "a": 1})
        self.bad(BadAct, 0, {"b": RESTS, "a": OVER}, {"b": 3, "a": 3})

    def test_a_bad_row_comes_before_a_bad_act(self):
        self.bad(BadRow, 1, {"b": RESTS, "a": SERVES}, {"b": 9})
        self.bad(BadRow, 1, {"b": RESTS}, {"b": 9})


class BreachTest(unittest.TestCase):
    def test_the_ticks_of_first_breaches(self):
        house = House({"b": GUEST, "a": IDLE})
        house.tick({"b": SERVES, "a": NO_TICK})
        house.tick({"b": RESTS, "a": OVER})
        house.tick({"b": RESTS, "a": NO_TICK})
        house.tick({"b": RESTS, "a": NO_TICK})
        expected = [
            (("a", (), "supply"), 0), (("b", (), "choice"), 1), (("b", (), "gaps0"), 2), (("b", (0,), "supply"), 3),
        ]
        self.assertEqual(list(house.breach_ticks().items()), expected)

    def test_the_order_in_one_tick(self):
        house = House({"b": IDLE, "a": GUEST, "c": IDLE})
        house.tick({"b": NO_TICK, "a": ((0, (-1, -1), -1, 0), (((0, (-1,), -1, 0), ()),)), "c": NO_TICK})
        expected = [("a", (), "gaps0"), ("a", (), "supply"), ("b", (), "supply"), ("c", (), "supply")]
        self.assertEqual(list(house.breach_ticks()), expected)

    def test_the_dict_is_new(self):
        house = House({"a": IDLE})
        house.tick({"a": NO_TICK})
        house.breach_ticks().clear()
        self.assertEqual(house.breach_ticks(), {("a", (), "supply"): 0})


if __name__ == "__main__":
    unittest.main()

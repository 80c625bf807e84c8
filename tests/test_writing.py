"""Point 45."""

import unittest

from firstbreach.choices import Choice
from firstbreach.cores import Core
from firstbreach.errors import InvalidHouse
from firstbreach.halls import Hall, Taking
from firstbreach.levels import Level
from firstbreach.supplies import Supply
from firstbreach.tasks import Task
from firstbreach.writing import plan_text

ALWAYS = Supply.always()
HALF = Supply.share(1, 2)
EMPTY = Level(Core(ALWAYS))
EMPTY_LINES = ["supply 1 0 0:1:0", "choice first", "door shut", "guard cut"]
HALF_LINE = "supply 3 0 0:0:1 0:1:2 1:1:0 2:0:0 2:1:0"


def text_of(lines):
    return "".join(line + "\n" for line in lines)


class TextTest(unittest.TestCase):
    def check(self, levels, lines, hall=None):
        self.assertEqual(plan_text(levels, hall), text_of(lines))

    def test_one_core(self):
        self.check({"a": EMPTY}, ["core a"] + EMPTY_LINES)

    def test_names_stand_in_the_order_of_the_dict(self):
        for names in (("a", "b", "c"), ("c", "a", "b"), ("zzzzzzzz", "q")):
            lines = [line for name in names for line in ["core " + name] + EMPTY_LINES]
            self.check({name: EMPTY for name in names}, lines)

    def test_supplies(self):
        for supply, line in (
            (HALF, HALF_LINE),
            (Supply(3, [(2, 1, 0), (0, 0, 1), (1, 1, 2), (0, 1, 0)], starts=[2, 0, 1]), "supply 3 0,1,2 0:0:1 0:1:0 1:1:2 2:1:0"),
            (Supply(2, [(0, 1, 1), (1, 0, 0)], starts=(1,)), "supply 2 1 0:1:1 1:0:0"),
            (Supply(11, [(state, 1, (state + 1) % 11) for state in range(11)], starts=(10, 9)),
             "supply 11 9,10 " + " ".join(f"{state}:1:{(state + 1) % 11}" for state in range(11))),
        ):
            self.check({"a": Level(Core(supply))}, ["core a", line] + EMPTY_LINES[1:])

    def test_choice_door_and_guard(self):
        for order, rules, line in (
            ("first", (), "choice first"), ("last", ("lend",), "choice last lend"),
            ("dues", ("lend", "ceil"), "choice dues ceil lend"), ("dues", ("ceil",), "choice dues ceil"),
        ):
            for door in ("shut", "open"):
                for guard in ("cut", "after", "trust"):
                    core = Core(ALWAYS, choice=Choice(order, *rules), door=door, guard=guard)
                    self.check({"a": Level(core)}, ["core a", EMPTY_LINES[0], line, "door " + door, "guard " + guard])

    def test_tasks(self):
        tasks = [
            Task([(("", "a", "abc", ""), 8), (("b",), 1)], [(1, 1, 8), (0, 1, 8), (1, 0, 2)]),
            Task([(("a",), 2)], [(0, 0, 3)], steady=True),
            Task([(("", "bc"), 2)], []),
        ]
        lines = [
            "task", "node 8 - a abc -", "node 1 b", "edge 0 1 8", "edge 1 0 2", "edge 1 1 8",
            "task steady", "node 2 a", "edge 0 0 3",
            "task", "node 2 - bc",
        ]
        for count, first in ((1, 6), (2, 9), (3, 11)):
            self.check({"a": Level(Core(ALWAYS, *tasks[:count]))}, ["core a"] + EMPTY_LINES + lines[:first])
        self.check({"a": Level(Core(ALWAYS, Task.serving(2, 4)))},
                   ["core a"] + EMPTY_LINES + ["task steady", "node 4 - -", "edge 0 0 4"])

    def test_guests(self):
        server = ["task steady", "node 2 -", "edge 0 0 2"]
        rest = EMPTY_LINES[1:]
        half = Level(Core(HALF))
        self.check({"a": Level(Core(ALWAYS, Task.serving(1, 2), Task.serving(1, 2)), {1: half, 0: half})},
                   ["core a"] + EMPTY_LINES + server + server + ["core a 0", HALF_LINE] + rest + ["core a 1", HALF_LINE] + rest)
        inner = Level(Core(HALF, Task.serving(1, 2)), {0: half})
        self.check({"b": EMPTY, "a": Level(Core(ALWAYS, Task.plain(1, 1, 1), Task.serving(1, 2)), {1: inner})},
                   ["core b"] + EMPTY_LINES + ["core a"] + EMPTY_LINES + ["task", "node 1 -", "edge 0 0 1"] + server
                   + ["core a 1", HALF_LINE] + rest + server + ["core a 1 0", HALF_LINE] + rest)

    def test_halls(self):
        block = ["core a"] + EMPTY_LINES
        other = ["core b"] + EMPTY_LINES
        self.check({"a": EMPTY}, block + ["taking 1", "queue"], Hall([[]], Taking([1])))
        self.check({"a": EMPTY, "b": EMPTY}, block + other + ["taking 2,0,5 again any half", "queue 2 0", "queue 1"],
                   Hall([[2, 0], [1]], Taking([2, 0, 5], "half", "any", "again")))
        self.check({"b": EMPTY, "a": EMPTY}, other + block + ["taking 0,0 any", "queue", "queue 0"],
                   Hall([[], [0]], Taking([0, 0], "any")))


class InvalidTest(unittest.TestCase):
    def wrong(self, levels, hall=None):
        with self.assertRaises(InvalidHouse):
            plan_text(levels, hall)

    def test_the_number_of_levels(self):
        self.wrong({})
        self.wrong({name: EMPTY for name in "abcd"})
        self.wrong({}, Hall([[]], Taking([1])))

    def test_names(self):
        for name in ("", "aaaaaaaaa", "A", "a1", "a b", "-", "core\n", "a ", "\u00e9", "aB"):
            self.wrong({name: EMPTY})
            self.wrong({"a": EMPTY, name: EMPTY})
        self.assertIn("core aaaaaaaa\n", plan_text({"aaaaaaaa": EMPTY}))
        self.assertIn("core core\n", plan_text({"core": EMPTY}))

    def test_the_number_of_queues(self):
        for names, queues in (("a", [[], []]), ("ab", [[]]), ("ab", [[], [], []]), ("abc", [[0]]), ("abc", [[], []])):
            self.wrong({name: EMPTY for name in names}, Hall(queues, Taking([1])))


if __name__ == "__main__":
    unittest.main()

"""Point 46."""

import random
import unittest

from firstbreach.errors import (
    BadText, InvalidChoice, InvalidCore, InvalidHall, InvalidLevel, InvalidSupply, InvalidTask, TooLarge
)
from firstbreach.halls import Hall
from firstbreach.levels import Level
from firstbreach.reading import read_plan
from firstbreach.supplies import Supply
from firstbreach.writing import plan_text
from plans import drawn_plan, told_plan
from syntax_model import told_fault

# A plan of two names with everything that a text can have.
LINES = [
    "core north", "supply always", "choice dues ceil lend", "door open", "guard trust",
    "task", "node 4 - a", "node 3 b", "edge 0 1 5", "edge 1 0 3",
    "task steady", "node 2 -", "edge 0 0 2",
    "core north 1", "supply share 1 2", "guard after",
    "task steady", "node 4 -", "edge 0 0 4",
    "core north 1 0", "supply share 1 4",
    "core south", "supply 2 0,1 0:1:1 1:0:0", "task", "node 8 - - -",
    "taking 2,1 again half", "queue 1 0", "queue",
]


def text_of(lines):
    return "".join(line + "\n" for line in lines)


def with_line(number, *lines):
    """The lines of the plan with other ones in place of the one with this number."""
    return LINES[:number - 1] + list(lines) + LINES[number:]


class ReadingCase(unittest.TestCase):
    def bad(self, text, line, word):
        with self.assertRaises(BadText) as caught:
            read_plan(text)
        self.assertEqual((caught.exception.line, caught.exception.word), (line, word), text)
        return caught.exception

    def bad_lines(self, lines, line, word):
        """Holds the error against the words of the syntax, too."""
        self.assertEqual(told_fault(text_of(lines)), (line, word))
        return self.bad(text_of(lines), line, word)

    def bad_part(self, lines, line, kind):
        """Holds the error of a part, and what it comes from."""
        self.assertIsNone(told_fault(text_of(lines)))
        error = self.bad(text_of(lines), line, 0)
        self.assertIs(type(error.__cause__), kind)
        return error.__cause__


class RightTest(ReadingCase):
    def test_everything(self):
        levels, hall = read_plan(text_of(LINES))
        self.assertIs(type(levels), dict)
        self.assertEqual(list(levels), ["north", "south"])
        north, south = levels.values()
        self.assertIsInstance(north, Level)
        self.assertEqual(north.paths, [(), (1,), (1, 0)])
        self.assertEqual((north.core.choice.order, north.core.choice.rules), ("dues", ("ceil", "lend")))
        self.assertEqual((north.core.door, north.core.guard), ("open", "trust"))
        self.assertEqual(north.core.tasks[0].nodes, ((("", "a"), 4), (("b",), 3)))
        self.assertEqual(north.core.tasks[0].edges, ((0, 1, 5), (1, 0, 3)))
        self.assertEqual([bool(task.steady) for task in north.core.tasks], [False, True])
        guest = north[(1,)]
        self.assertEqual((guest.choice.order, guest.choice.rules, guest.door, guest.guard), ("first", (), "shut", "after"))
        self.assertEqual(guest.supply.steps, Supply.share(1, 2).steps)
        self.assertEqual(north[(1, 0)].tasks, ())
        self.assertEqual((south.core.supply.starts, south.core.supply.steps), ((0, 1), ((0, 1, 1), (1, 0, 0))))
        self.assertEqual(south.core.tasks[0].edges, ())
        self.assertIsInstance(hall, Hall)
        self.assertEqual((hall.queues, hall.taking.least, hall.taking.rules), (((1, 0), ()), (2, 1), ("again", "half")))

    def test_the_least_plan(self):
        levels, hall = read_plan("core a\nsupply always\n")
        self.assertEqual(list(levels), ["a"])
        self.assertIsNone(hall)
        self.assertEqual((levels["a"].core.tasks, levels["a"].guests), ((), {}))
        self.assertEqual(levels["a"].core.supply.steps, ((0, 1, 0),))

    def test_lines_that_may_be_missing(self):
        rest = [("choice last lend", "choice first"), ("door open", "door shut"), ("guard trust", "guard cut")]
        for places in range(8):
            lines = [given for at, (given, _) in enumerate(rest) if places >> at & 1]
            full = [given if places >> at & 1 else meant for at, (given, meant) in enumerate(rest)]
            text = text_of(["core a", "supply always"] + lines + ["task", "node 1 a"])
            whole = text_of(["core a", "supply 1 0 0:1:0"] + full + ["task", "node 1 a"])
            self.assertEqual(plan_text(*read_plan(text)), whole)

    def test_other_orders(self):
        text = text_of([
            "core a", "supply 3 2,0 2:1:0 0:1:1 1:1:2 0:0:0", "choice first lend ceil",
            "task", "node 2 -", "node 1 -", "edge 1 1 2", "edge 0 1 2", "taking 1 half any again", "queue",
        ])
        self.assertEqual(plan_text(*read_plan(text)), text_of([
            "core a", "supply 3 0,2 0:0:0 0:1:1 1:1:2 2:1:0", "choice first ceil lend", "door shut", "guard cut",
            "task", "node 2 -", "node 1 -", "edge 0 1 2", "edge 1 1 2", "taking 1 again any half", "queue",
        ]))

    def test_entries(self):
        levels, _ = read_plan("core a\nsupply always\ntask\nnode 8 - abc ab c\n")
        self.assertEqual(levels["a"].core.tasks[0].nodes, ((("", "abc", "ab", "c"), 8),))

    def test_shares(self):
        for given, period in ((0, 1), (1, 1), (3, 4), (8, 8)):
            levels, _ = read_plan(f"core a\nsupply share {given} {period}\n")
            share = Supply.share(given, period)
            self.assertEqual((levels["a"].core.supply.size, levels["a"].core.supply.steps), (share.size, share.steps))

    def test_words_of_the_syntax_as_names(self):
        for name in ("core", "supply", "taking", "queue", "always", "share", "steady"):
            text = text_of([f"core {name}", "supply always", "taking 1", "queue"])
            self.assertEqual(list(read_plan(text)[0]), [name])

    def test_texts_of_plans(self):
        for seed in range(200):
            levels, hall = drawn_plan(seed)
            text = plan_text(levels, hall)
            self.assertIsNone(told_fault(text))
            read = read_plan(text)
            self.assertEqual(told_plan(*read), told_plan(levels, hall))
            self.assertEqual(list(read[0]), list(levels))
            self.assertEqual(plan_text(*read), text)


class LineTest(ReadingCase):
    def test_each_kind_of_line(self):
        for number, line, word in (
            (1, "core", 2), (1, "Core north", 1), (1, "", 1), (1, "core ", 2), (1, " core north", 1),
            (1, "core North", 2), (1, "core northwest", 2), (1, "core north 1", 3), (1, "core north ", 3), (1, "supply always", 1),
            (2, "supply", 2), (2, "supply ", 2), (2, "supply never", 2), (2, "supply always 1", 3), (2, "supply always ", 3),
            (2, "supply share", 3), (2, "supply share 1", 4), (2, "supply share 1 x", 4), (2, "supply share 01 2", 3),
            (2, "supply share 1 2 3", 5), (2, "supply 1", 3), (2, "supply 1 0", 4), (2, "supply 1 0 0:1", 4),
            (2, "supply 1 0 0:1:0 ", 5), (2, "supply 1 0 0:1:0 0:1:0:0", 5), (2, "supply 1 0 0:1:0 0:01:0", 5),
            (2, "supply 1 0, 0:1:0", 3), (2, "supply 1 ,0 0:1:0", 3), (2, "supply 1 00 0:1:0", 3), (2, "supply 10000 0 0:1:0", 2),
            (2, "supply 1 0  0:1:0", 4), (2, "supply 1 0 0::0", 4), (2, "supply -1 0 0:1:0", 2), (2, "supply 1 0:1:0", 3),
            (3, "choice", 2), (3, "choice ", 2), (3, "choice dues 1", 3), (3, "choice dues ceil ", 4), (3, "choice DUES", 2),
            (3, "choice dues abcdefghi", 3), (3, "choice ceil,lend", 2),
            (4, "door", 2), (4, "door open shut", 3), (4, "door 1", 2), (4, "door ", 2), (4, "doors open", 1),
            (5, "guard", 2), (5, "guard cut ", 3), (5, "guard c-t", 2),
            (6, "task steady steady", 3), (6, "task ready", 2), (6, "task ", 2), (6, "tasks", 1),
            (7, "node", 2), (7, "node 4", 3), (7, "node x", 2), (7, "node 4 abcd", 3), (7, "node 4 - --", 4), (7, "node 4 - ", 4),
            (7, "node - 4", 2), (7, "node 4 A", 3), (7, "node 4  a", 3), (7, "node 00004 a", 2),
            (9, "edge", 2), (9, "edge 0", 3), (9, "edge 0 1", 4), (9, "edge 0 1 5 5", 5), (9, "edge 0 -1 5", 3), (9, "edge 0 1 ", 4),
            (26, "taking", 2), (26, "taking 2,", 2), (26, "taking again", 2), (26, "taking 2 1", 3), (26, "taking 2  any", 3),
            (27, "queue x", 2), (27, "queue 0 ", 3), (27, "queue 01", 2), (27, "queue 0,1", 2), (27, "queues", 1),
        ):
            self.bad_lines(with_line(number, line), number, word)

    def test_lines_that_cannot_stand_there(self):
        for number, lines, line in (
            (2, ["choice first"], 2), (2, ["supply always", "supply always"], 3), (2, ["task"], 2), (2, ["core south"], 2),
            (3, ["choice first", "choice first"], 4), (3, ["door open"], 4), (3, ["guard cut", "choice first"], 4),
            (4, ["door open", "door open"], 5), (5, ["guard cut", "guard cut"], 6), (5, ["guard cut", "door open"], 6),
            (6, [], 6), (6, ["node 1 -"], 6), (6, ["edge 0 0 1"], 6), (6, ["task", "task"], 7), (6, ["task", "edge 0 0 1"], 7),
            (6, ["task", "core south"], 7), (6, ["task", "door shut"], 7), (10, ["edge 1 0 3", "node 1 -"], 11),
            (10, ["edge 1 0 3", "guard cut"], 11), (10, ["edge 1 0 3", "queue"], 11), (9, ["choice first"], 9),
            (26, ["queue"], 26), (27, ["core east"], 27), (27, ["taking 1"], 27), (28, ["queue", "queue"], 29),
            (28, ["queue", "core east"], 29), (28, ["queue", ""], 29), (28, ["queue", "taking 1"], 29), (28, ["core east"], 28),
        ):
            self.bad_lines(with_line(number, *lines), line, 1)

    def test_the_number_of_queues(self):
        for names in (["a"], ["a", "b"], ["a", "b", "c"]):
            lines = [line for name in names for line in ("core " + name, "supply always")] + ["taking 1"]
            for count in range(len(names)):
                self.bad_lines(lines + ["queue"] * count, len(lines) + count + 1, 1)
                self.bad_lines(lines + ["queue"] * count + ["core d"], len(lines) + count + 1, 1)
            lines = lines + ["queue"] * len(names)
            self.assertEqual(len(read_plan(text_of(lines))[1].queues), len(names))
            for line in ("queue", "core d", "taking 1", "", "supply always"):
                self.bad_lines(lines + [line], len(lines) + 1, 1)

    def test_empty_lines(self):
        for number in range(1, len(LINES) + 2):
            self.bad_lines(LINES[:number - 1] + [""] + LINES[number - 1:], number, 1)

    def test_texts_that_end_too_early(self):
        whole = 0
        for count in range(len(LINES)):
            told = told_fault(text_of(LINES[:count]))
            if told is None:
                whole += 1
                if LINES[count - 1] != "node 2 -" and LINES[count - 1] != "node 4 -":
                    read_plan(text_of(LINES[:count]))
            else:
                self.assertEqual(told, (count + 1, 1))
                self.bad(text_of(LINES[:count]), count + 1, 1)
        self.assertEqual(whole, 17)
        self.bad("", 1, 1)
        self.bad("\n", 1, 1)
        self.bad("core a", 2, 1)
        self.bad("core a\nsupply always\ntaking 1\nqueue\n\n", 5, 1)

    def test_a_missing_line_feed(self):
        text = text_of(LINES)
        self.bad(text[:-1], 28, 2)
        self.bad("core a\nsupply always", 2, 3)
        self.bad("core a\nsupply always\ntask\nnode 3 - -", 4, 5)
        # A part with an error counts less, and a wrong word or a missing line counts more.
        self.bad("core a\nsupply 9999 0 0:7:0", 2, 5)
        self.bad("core a\nsupply always\nchoice worst", 3, 3)
        self.bad("core a\nsupply alway", 2, 2)
        self.bad("core a\nsupply always\ntask", 4, 1)
        self.bad("core a\nsupply always\n ", 3, 1)

    def test_other_white_space(self):
        self.bad("core a\r\nsupply always\r\n", 1, 2)
        self.bad("core a\nsupply\talways\n", 2, 1)
        self.bad("core a\n\nsupply always\n", 2, 1)


class CoreLineTest(ReadingCase):
    def core(self, *words):
        return ["core " + " ".join(str(word) for word in words), "supply always"]

    def blocks(self, *cores):
        return [line for core in cores for line in self.core(*core)]

    def test_names(self):
        self.bad_lines(self.blocks("a", "a"), 3, 3)
        self.bad_lines(self.blocks("a", "b", "a"), 5, 2)
        self.bad_lines(self.blocks("a", "b", "c", "d"), 7, 2)
        self.bad_lines(self.blocks("a", "b", "c", "b"), 7, 2)
        self.bad_lines(self.blocks("a", "b", "c", "c"), 7, 3)
        self.assertEqual(list(read_plan(text_of(self.blocks("b", "a", "c")))[0]), ["b", "a", "c"])

    def test_paths(self):
        for cores, line, word in (
            ([("a",), ("b", 0)], 3, 3),
            ([("a",), ("b",), ("a", 0)], 5, 2),
            ([("a",), ("a", 0, 0)], 3, 4),
            ([("a",), ("a", 1), ("a", 0)], 5, 3),
            ([("a",), ("a", 1), ("a", 1)], 5, 4),
            ([("a",), ("a", 1), ("a", 2, 0)], 5, 4),
            ([("a",), ("a", 1), ("a", 0, 0)], 5, 3),
            ([("a",), ("a", 1), ("a", 1, 3), ("a", 1, 3)], 7, 4),
            ([("a",), ("a", 1), ("a", 1, 3), ("a", 1, 2)], 7, 4),
            ([("a",), ("a", 5), ("a", 5, 3), ("a", 5, 2)], 7, 4),
            ([("a",), ("a", 1), ("b",), ("b", 1, 0)], 7, 4),
            ([("a",), ("a", 3), ("b",), ("b", 2), ("b", 3, 0)], 9, 4),
            ([("a",), ("a", 1), ("a", 1, 3), ("a", 1)], 7, 4),
            ([("a",), ("a", 1), ("a", 1, 3), ("a", 0)], 7, 3),
            ([("a",), ("a", 1), ("a", 2), ("a", 1, 0)], 7, 3),
            ([("a",), ("a", 1, "x")], 3, 4),
            ([("a",), ("a", 1), ("a", 1, 0, 0)], 5, 5),
            ([("a",), ("a", 1), ("a", 2, "")], 5, 4),
            ([("a",), ("a", "01")], 3, 3),
            ([("a",), ("a", 10000)], 3, 3),
            ([("a",), ("a", "")], 3, 3),
            ([("a",), ("a", 9999), ("a", 9999)], 5, 4),
            ([("a",), ("a", 9999), ("a", 9999, 9999), ("a", 9999)], 7, 2),
            ([("a",), ("a", 9999), ("a", 9999, 9999), ("a", 9999, 9999)], 7, 2),
            ([("a",), ("a", 9998), ("a", 9998, 9999), ("a", 9998, 9999)], 7, 3),
            ([("a",), ("b",), ("c",), ("c", 9999), ("c", 9999, 9999), ("c",)], 11, 1),
            ([("a",), ("b",), ("c",), ("c", 9999), ("c", 9999, 9998), ("c",)], 11, 3),
        ):
            self.bad_lines(self.blocks(*cores), line, word)

    def test_paths_that_may_follow(self):
        for cores in (
            [("a",), ("a", 0), ("a", 0, 0), ("a", 0, 1)],
            [("a",), ("a", 0), ("a", 0, 9999), ("a", 1)],
            [("a",), ("a", 9998), ("a", 9998, 9999), ("a", 9999)],
            [("a",), ("a", 9999), ("a", 9999, 9998), ("a", 9999, 9999)],
            [("a",), ("b",), ("b", 0), ("b", 0, 0)],
        ):
            # The syntax is right, but the core before the first path of two numbers has no server.
            first = [at for at, core in enumerate(cores) if len(core) == 3][0]
            self.bad_part(self.blocks(*cores), first * 2 - 1, InvalidLevel)

    def test_a_path_whose_words_are_missing(self):
        self.bad_lines(self.blocks(("a",), ("a",)), 3, 3)
        self.bad_lines(self.blocks(("a",)) + ["core"], 3, 2)
        self.bad_lines(self.blocks(("a",), ("a", 3)) + ["core a 3"], 5, 4)


class PartTest(ReadingCase):
    def test_a_part_of_each_kind(self):
        for number, line, at, kind in (
            (2, "supply 1 0 0:2:0", 2, InvalidSupply),
            (2, "supply 0 0 0:1:0", 2, InvalidSupply),
            (2, "supply 1 1 0:1:0", 2, InvalidSupply),
            (2, "supply 1 0,0 0:1:0", 2, InvalidSupply),
            (2, "supply 1 0 0:1:0 0:1:0", 2, InvalidSupply),
            (2, "supply share 2 1", 2, InvalidSupply),
            (2, "supply share 1 9", 2, InvalidSupply),
            (3, "choice worst", 3, InvalidChoice),
            (3, "choice dues lend lend", 3, InvalidChoice),
            (3, "choice dues ceil first", 3, InvalidChoice),
            (4, "door ajar", 1, InvalidCore),
            (5, "guard dog", 1, InvalidCore),
            (7, "node 1 - a", 6, InvalidTask),
            (7, "node 9 - a", 6, InvalidTask),
            (7, "node 4 - d", 6, InvalidTask),
            (7, "node 4 - zzz", 6, InvalidTask),
            (7, "node 4 - aa", 6, InvalidTask),
            (7, "node 4 - ba", 6, InvalidTask),
            (7, "node 8 - - - - -", 6, InvalidTask),
            (9, "edge 0 2 5", 6, InvalidTask),
            (9, "edge 0 1 3", 6, InvalidTask),
            (9, "edge 1 0 3", 6, InvalidTask),
            (26, "taking 6", 26, InvalidHall),
            (26, "taking 1,1,1,1,1,1", 26, InvalidHall),
            (26, "taking 1 any any", 26, InvalidHall),
            (26, "taking 1 all", 26, InvalidHall),
            (27, "queue 0", 0, None),
            (27, "queue 0 0", 26, InvalidHall),
            (27, "queue 2 0", 26, InvalidHall),
            (27, "queue 0 1 2 3 4 5", 26, InvalidHall),
        ):
            if kind is None:
                self.assertEqual(read_plan(text_of(with_line(number, line)))[1].queues, ((0,), ()))
            else:
                self.bad_part(with_line(number, line), at, kind)

    def test_tasks_that_are_not_steady(self):
        lines = with_line(6, "task steady")
        self.bad_part(lines, 6, InvalidTask)

    def test_a_core_with_too_many_tasks(self):
        task = ["task", "node 1 -"]
        self.bad_part(["core a", "supply always"] + task * 4, 1, InvalidCore)
        self.assertEqual(len(read_plan(text_of(["core a", "supply always"] + task * 3))[0]["a"].core.tasks), 3)

    def test_a_core_that_is_too_large(self):
        task = ["task", "node 8 - - - -", "node 8 - - - -"]
        cause = self.bad_part(["core b", "supply always", "core a", "supply always"] + task * 3, 3, TooLarge)
        self.assertEqual(cause.bound, 100000)

    def test_levels(self):
        # A server that is not there, one that is none, and a supply that its share is not within.
        for number, line, at in (
            (14, "core north 2", None),
            (11, "task", 1),
            (12, "node 1 -", 1),
            (15, "supply share 2 3", 1),
            (17, "task", 14),
            (21, "supply share 2 4", 14),
        ):
            if at is not None:
                self.bad_part(with_line(number, line), at, InvalidLevel)
        lines = LINES[:19] + LINES[21:]
        lines[13] = "core north 2"
        self.bad_part(lines, 1, InvalidLevel)
        lines[13] = "core north 0"
        self.bad_part(lines, 1, InvalidLevel)

    def test_four_cores(self):
        server = ["task steady", "node 2 -", "edge 0 0 2"]
        lines = ["core a", "supply always"] + server * 3
        for number in range(3):
            lines += [f"core a {number}", "supply share 1 2"]
        self.bad_part(lines, 1, InvalidLevel)
        self.assertEqual(read_plan(text_of(lines[:-2]))[0]["a"].paths, [(), (0,), (1,)])

    def test_the_least_line(self):
        lines = with_line(26, "taking 9")
        self.bad_part(lines, 26, InvalidHall)
        lines[20] = "supply share 9 9"
        self.bad_part(lines, 21, InvalidSupply)
        lines[15] = "guard none"
        self.bad_part(lines, 14, InvalidCore)
        lines[2] = "choice none"
        self.bad_part(lines, 3, InvalidChoice)
        lines[1] = "supply share 9 9"
        self.bad_part(lines, 2, InvalidSupply)

    def test_a_later_block_with_a_lesser_line(self):
        # The level north, line 1, is not built, for its guest is not; the level south is built.
        lines = with_line(21, "supply 1 0 0:3:0")
        lines[16] = "task"
        self.bad_part(lines, 21, InvalidSupply)
        lines = with_line(12, "node 1 -")
        lines[22] = "supply 1 0 0:3:0"
        self.bad_part(lines, 1, InvalidLevel)

    def test_what_needs_a_part_with_an_error_is_not_built(self):
        # The core has too many tasks, but its choice is none.
        task = ["task", "node 1 -"]
        self.bad_part(["core a", "supply always", "choice none"] + task * 4, 3, InvalidChoice)
        self.bad_part(["core a", "supply share 5 4"] + task * 4, 2, InvalidSupply)
        self.bad_part(["core a", "supply always", "door x"] + task + ["task", "node 0 -"], 6, InvalidTask)
        # The hall has a wrong queue, but the taking book is wrong itself: both are of one line.
        cause = self.bad_part(with_line(26, "taking 7")[:27] + ["queue 7"], 26, InvalidHall)
        self.assertIsInstance(cause, InvalidHall)
        # The guest is wrong, so its host's level is not built, but its host's core is.
        lines = with_line(15, "supply share 3 2")
        lines[3] = "door x"
        self.bad_part(lines, 1, InvalidCore)
        lines = with_line(15, "supply share 3 2")
        lines[10] = "task"
        self.bad_part(lines, 15, InvalidSupply)

    def test_the_hall_is_built_though_a_level_is_not(self):
        lines = with_line(27, "queue 5")
        self.bad_part(lines, 26, InvalidHall)
        lines[22] = "supply 1 0 0:3:0"
        self.bad_part(lines, 23, InvalidSupply)


class DrawnTest(ReadingCase):
    PIECES = ("0", "1", "9999", "-", "a", "ab", "core", "supply", "task", "node", "edge", "queue", "taking", "always", "share",
              "steady", "", "0:1:0", "0,1", "north", "zz", "01", "door", "guard", "choice", "X")

    def changed(self, draw, lines):
        """The lines with a word, a line or an order changed."""
        lines = list(lines)
        at = draw.randrange(len(lines))
        kind = draw.randrange(6)
        words = lines[at].split(" ")
        place = draw.randrange(len(words))
        if kind == 0:
            words[place] = draw.choice(self.PIECES)
        elif kind == 1:
            words.insert(draw.randint(0, len(words)), draw.choice(self.PIECES))
        elif kind == 2 and len(words) > 1:
            del words[place]
        elif kind == 3:
            del lines[at]
            return lines
        elif kind == 4:
            other = draw.randrange(len(lines))
            lines[at], lines[other] = lines[other], lines[at]
            return lines
        else:
            lines.insert(draw.randint(0, len(lines)), draw.choice(lines))
            return lines
        lines[at] = " ".join(words)
        return lines

    def test_drawn_faults(self):
        draw = random.Random(5)
        told = {}
        for turn in range(900):
            lines = LINES if turn % 3 else plan_text(*drawn_plan(turn % 60, 60)).split("\n")[:-1]
            for _ in range(draw.randint(1, 2)):
                lines = self.changed(draw, lines) if lines else lines
            text = text_of(lines)
            if draw.random() < 0.1:
                text = text[:-1]
            fault = told_fault(text)
            if fault is None:
                told["right"] = told.get("right", 0) + 1
                try:
                    read_plan(text)
                except BadText as error:
                    self.assertEqual(error.word, 0)
            else:
                told[fault[1]] = told.get(fault[1], 0) + 1
                self.bad(text, *fault)
        self.assertGreater(told["right"], 60)
        for word in (1, 2, 3, 4, 5):
            self.assertGreater(told[word], 10)


if __name__ == "__main__":
    unittest.main()

"""Points 7 to 11, and what point 2 says of tasks."""

import unittest

from firstbreach.errors import InvalidTask
from firstbreach.tasks import NONE, Task

PLAIN = (("",), 2)


class BuildingTest(unittest.TestCase):
    def test_attributes(self):
        task = Task([(["a", ""], 3), (("bc",), 1)], [(1, 0, 4), (0, 1, 5), (0, 0, 3)])
        self.assertEqual(task.nodes, ((("a", ""), 3), (("bc",), 1)))
        self.assertEqual(task.edges, ((0, 0, 3), (0, 1, 5), (1, 0, 4)))
        self.assertIs(task.steady, False)
        for part in (task.nodes, task.edges, task.nodes[0], task.nodes[0][0]):
            self.assertIs(type(part), tuple)

    def test_lists_handed_in_stay_and_may_change_afterwards(self):
        plan = ["a", "ab"]
        nodes = [(plan, 2)]
        edges = [(0, 0, 8)]
        task = Task(nodes, edges)
        self.assertEqual((plan, nodes, edges), (["a", "ab"], [(["a", "ab"], 2)], [(0, 0, 8)]))
        plan.append("c")
        nodes.append((("",), 1))
        edges.clear()
        self.assertEqual(task.nodes, ((("a", "ab"), 2),))
        self.assertEqual(task.edges, ((0, 0, 8),))
        self.assertEqual(task.cap(0), 8)

    def test_tuples_stand_for_lists(self):
        task = Task(((("", ""), 3),), ((0, 0, 5),), steady=True)
        self.assertEqual(task.nodes, ((("", ""), 3),))
        self.assertIs(task.steady, True)

    def assert_invalid(self, nodes, edges, **more):
        with self.assertRaises(InvalidTask):
            Task(nodes, edges, **more)

    def test_1_and_2_nodes(self):
        Task([PLAIN], [])
        Task([PLAIN, PLAIN], [])
        self.assert_invalid([], [])
        self.assert_invalid([PLAIN, PLAIN, PLAIN], [])

    def test_the_length_of_a_plan(self):
        Task([(("",), 8)], [])
        Task([(("", "", "", ""), 8)], [])
        self.assert_invalid([((), 8)], [])
        self.assert_invalid([(("", "", "", "", ""), 8)], [])
        self.assert_invalid([PLAIN, ((), 8)], [])

    def test_the_entries_of_a_plan(self):
        for entry in ("", "a", "b", "c", "ab", "ac", "bc", "abc"):
            self.assertEqual(Task([((entry,), 1)], []).nodes, (((entry,), 1),))
        for entry in ("d", "ba", "ca", "cb", "aa", "aab", "acb", "A", " ", "a ", "abcd", "-", "ad"):
            self.assert_invalid([((entry,), 1)], [])
            self.assert_invalid([(("", entry), 2)], [])
            self.assert_invalid([PLAIN, (("", entry), 2)], [])

    def test_the_due(self):
        for length in (1, 2, 3, 4):
            Task([(("",) * length, length)], [])
            Task([(("",) * length, 8)], [])
            self.assert_invalid([(("",) * length, length - 1)], [])
            self.assert_invalid([(("",) * length, 9)], [])
        self.assert_invalid([PLAIN, (("", ""), 1)], [])
        self.assert_invalid([(("",), 0)], [])

    def test_the_gap(self):
        for due in (1, 5, 8):
            node = (("",), due)
            Task([node], [(0, 0, due)])
            Task([node], [(0, 0, 8)])
            self.assert_invalid([node], [(0, 0, due - 1)])
            self.assert_invalid([node], [(0, 0, 9)])

    def test_the_gap_goes_by_the_node_before(self):
        nodes = [(("",), 2), (("",), 6)]
        Task(nodes, [(0, 1, 2)])
        Task(nodes, [(1, 0, 6)])
        self.assert_invalid(nodes, [(1, 0, 5)])
        self.assert_invalid(nodes, [(0, 1, 1)])

    def test_the_nodes_of_an_edge(self):
        for u, v in ((0, 1), (1, 0), (-1, 0), (0, -1), (1, 1)):
            self.assert_invalid([PLAIN], [(u, v, 5)])
        for u, v in ((0, 2), (2, 0), (-1, 0), (0, -1), (-2, 1), (1, -2)):
            self.assert_invalid([PLAIN, PLAIN], [(u, v, 5)])

    def test_no_two_edges_with_the_same_nodes(self):
        Task([PLAIN, PLAIN], [(0, 0, 4), (0, 1, 4), (1, 0, 4), (1, 1, 4)])
        self.assert_invalid([PLAIN], [(0, 0, 4), (0, 0, 5)])
        self.assert_invalid([PLAIN], [(0, 0, 4), (0, 0, 4)])
        self.assert_invalid([PLAIN, PLAIN], [(0, 1, 4), (1, 0, 4), (0, 1, 7)])

    def test_steady_tasks(self):
        self.assertIs(Task([(("a",), 2)], [(0, 0, 5)], steady=True).steady, True)
        self.assert_invalid([PLAIN], [], steady=True)
        self.assert_invalid([PLAIN, PLAIN], [(0, 0, 5)], steady=True)
        self.assert_invalid([PLAIN, PLAIN], [(0, 1, 5), (1, 0, 5)], steady=True)
        self.assert_invalid([PLAIN, PLAIN], [], steady=True)

    def test_servers(self):
        self.assertIs(Task([(("", ""), 5)], [(0, 0, 5)], steady=True).server, True)
        self.assertIs(Task([(("", ""), 4)], [(0, 0, 5)], steady=True).server, False)
        self.assertIs(Task([(("", "a"), 5)], [(0, 0, 5)], steady=True).server, False)
        self.assertIs(Task([(("c", ""), 5)], [(0, 0, 5)], steady=True).server, False)
        self.assertIs(Task([(("", ""), 5)], [(0, 0, 5)]).server, False)
        self.assertIs(Task([(("", ""), 5)], []).server, False)
        self.assertIs(Task([PLAIN, PLAIN], [(0, 1, 2)]).server, False)

    def test_plain(self):
        task = Task.plain(3, 4, 6)
        self.assertIs(type(task), Task)
        self.assertEqual(task.nodes, ((("", "", ""), 4),))
        self.assertEqual(task.edges, ((0, 0, 6),))
        self.assertIs(task.steady, False)
        for length, due, gap in ((0, 4, 6), (5, 6, 6), (3, 2, 6), (1, 9, 9), (1, 4, 3), (1, 4, 9), (-1, 4, 6)):
            with self.assertRaises(InvalidTask):
                Task.plain(length, due, gap)

    def test_serving(self):
        task = Task.serving(2, 5)
        self.assertIs(type(task), Task)
        self.assertEqual(task.nodes, ((("", ""), 5),))
        self.assertEqual(task.edges, ((0, 0, 5),))
        self.assertIs(task.steady, True)
        self.assertIs(task.server, True)
        for length, gap in ((0, 5), (5, 8), (3, 2), (1, 9)):
            with self.assertRaises(InvalidTask):
                Task.serving(length, gap)


class StatusTest(unittest.TestCase):
    def test_none(self):
        self.assertEqual(NONE, (-1, 0, 0, 0))
        task = Task([(("a",), 1), (("a",), 1)], [])
        self.assertIs(task.unfinished(NONE), False)
        self.assertEqual((task.held(NONE), task.needed(NONE)), ("", ""))
        self.assertIs(task.allows(NONE, 0), True)
        self.assertIs(task.allows(NONE, 1), True)
        self.assertIs(task.allows(NONE, 2), False)
        self.assertIs(task.allows(NONE, -1), False)
        self.assertIs(task.owes(NONE), False)
        self.assertIs(Task.serving(1, 3).owes(NONE), True)

    def test_cap(self):
        task = Task([(("",), 6), (("",), 3)], [(0, 0, 7), (0, 1, 8), (1, 0, 4)])
        self.assertEqual((task.cap(0), task.cap(1)), (8, 4))
        self.assertEqual(Task([(("",), 6), (("",), 3)], [(0, 0, 8)]).cap(1), 3)
        self.assertEqual(Task([(("",), 6)], []).cap(0), 6)
        self.assertEqual(Task([(("",), 6), (("",), 3)], [(1, 0, 8), (0, 1, 6)]).cap(0), 6)
        self.assertEqual(Task([(("",), 6)], [(0, 0, 6)]).cap(0), 6)

    def test_unfinished(self):
        task = Task([(("", ""), 4), (("",), 4)], [])
        self.assertIs(task.unfinished((0, 0, 0, 0)), True)
        self.assertIs(task.unfinished((0, 4, 1, 0)), True)
        self.assertIs(task.unfinished((0, 4, 2, 0)), False)
        self.assertIs(task.unfinished((0, 4, 2, 1)), True)
        self.assertIs(task.unfinished((1, 4, 1, 0)), False)
        self.assertIs(task.unfinished((1, 4, 0, 0)), True)
        self.assertIs(task.unfinished((1, 4, 1, 1)), True)

    def test_allows(self):
        task = Task([(("",), 3), (("",), 2)], [(0, 0, 6), (0, 1, 4), (1, 0, 2)])
        for age in range(7):
            self.assertIs(task.allows((0, age, 1, 0), 0), age >= 6)
            self.assertIs(task.allows((0, age, 1, 0), 1), age >= 4)
            self.assertIs(task.allows((0, age, 0, 0), 1), age >= 4)
        for age in range(3):
            self.assertIs(task.allows((1, age, 1, 0), 0), age >= 2)
            self.assertIs(task.allows((1, age, 1, 0), 1), False)
        self.assertIs(task.allows((0, 6, 1, 0), 2), False)
        self.assertIs(task.allows((0, 6, 1, 0), -1), False)

    def test_no_job_follows_without_an_edge(self):
        self.assertIs(Task([(("",), 3)], []).allows((0, 3, 1, 0), 0), False)

    def test_owes(self):
        task = Task([(("",), 2)], [(0, 0, 4)], steady=True)
        for age in range(5):
            self.assertIs(task.owes((0, age, 0, 0)), age == 4)
            self.assertIs(task.owes((0, age, 1, 0)), age == 4)
            self.assertIs(task.owes((0, age, 1, 1)), age == 4)
            self.assertIs(Task([(("",), 2)], [(0, 0, 4)]).owes((0, age, 1, 0)), False)

    def test_locks_held_and_needed_at_each_place_of_a_plan(self):
        task = Task([(("a", "ab", "bc", "ac"), 8)], [])
        self.assertEqual([task.held((0, 0, done, 0)) for done in range(5)], ["", "a", "b", "c", ""])
        self.assertEqual([task.needed((0, 0, done, 0)) for done in range(5)], ["a", "b", "c", "a", ""])
        self.assertEqual((task.held((0, 0, 4, 1)), task.needed((0, 0, 4, 1))), ("", ""))

    def test_locks_are_in_ascending_order(self):
        task = Task([(("abc", "abc", "", "abc"), 8)], [])
        self.assertEqual([task.held((0, 0, done, 0)) for done in range(5)], ["", "abc", "", "", ""])
        self.assertEqual([task.needed((0, 0, done, 0)) for done in range(5)], ["abc", "", "", "abc", ""])

    def test_a_lock_that_comes_again_is_not_held_between(self):
        task = Task([(("a", "", "a"), 3)], [])
        self.assertEqual([task.held((0, 0, done, 0)) for done in range(4)], ["", "", "", ""])
        self.assertEqual([task.needed((0, 0, done, 0)) for done in range(4)], ["a", "", "a", ""])

    def test_locks_of_the_node_of_the_job(self):
        task = Task([(("a", "a"), 2), (("b", "bc"), 2)], [])
        self.assertEqual((task.held((0, 1, 1, 0)), task.needed((0, 1, 1, 0))), ("a", ""))
        self.assertEqual((task.held((1, 1, 1, 0)), task.needed((1, 1, 1, 0))), ("b", "c"))
        self.assertEqual((task.held((1, 0, 0, 0)), task.needed((1, 0, 0, 0))), ("", "b"))


if __name__ == "__main__":
    unittest.main()

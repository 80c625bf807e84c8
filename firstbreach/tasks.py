"""Tasks: when jobs come, how long they work and which locks they use."""

from firstbreach.errors import InvalidTask

NONE = (-1, 0, 0, 0)
LOCKS = ("a", "b", "c")
MAX_NODES = 2
MAX_PLAN = 4
MAX_TICKS = 8


class Task:
    """One or two nodes, each with a plan and a due, and edges with gaps between them."""

    def __init__(self, nodes, edges, *, steady=False):
        self.nodes = tuple([(tuple(plan), due) for plan, due in nodes])
        self.edges = tuple(sorted([(u, v, gap) for u, v, gap in edges]))
        self.steady = steady
        if not (are_nodes(self.nodes) and are_edges(self.nodes, self.edges)):
            raise InvalidTask("a node or an edge breaks a rule")
        if steady and not len(self.nodes) == len(self.edges) == 1:
            raise InvalidTask("a steady task has one node and one edge")

    @classmethod
    def plain(cls, length, due, gap):
        """Returns the task with one node whose plan uses no locks, and one edge."""
        return cls([(("",) * length, due)], [(0, 0, gap)])

    @classmethod
    def serving(cls, length, gap):
        """Returns the server whose plan has this length."""
        return cls([(("",) * length, gap)], [(0, 0, gap)], steady=True)

    @property
    def server(self):
        """Whether the task is a server."""
        plan, due = self.nodes[0]
        return bool(self.steady) and plan == ("",) * len(plan) and due == self.edges[0][2]

    def cap(self, node):
        """Returns the age up to which jobs of this node are told apart."""
        _, due = self.nodes[node]
        return max([due] + [gap for u, _, gap in self.edges if u == node])

    def unfinished(self, status):
        """Returns whether the last job is not finished."""
        node, _, done, over = status
        return node >= 0 and (over == 1 or done < len(self.nodes[node][0]))

    def allows(self, status, node):
        """Returns whether a job of this node may come now."""
        last, age, _, _ = status
        if last < 0:
            return 0 <= node < len(self.nodes)
        return any([u == last and v == node and gap <= age for u, v, gap in self.edges])

    def owes(self, status):
        """Returns whether a job of this steady task has to come now."""
        if not self.steady:
            return False
        node, age, _, _ = status
        return node < 0 or age == self.edges[0][2]

    def held(self, status):
        """Returns the locks that the last job holds, ascending."""
        node, _, done, over = status
        if not self.unfinished(status) or over == 1 or done == 0:
            return ""
        plan = self.nodes[node][0]
        return "".join([lock for lock in plan[done - 1] if lock in plan[done]])

    def needed(self, status):
        """Returns the locks that the last job needs for its next tick and does not hold, ascending."""
        node, _, done, over = status
        if not self.unfinished(status) or over == 1:
            return ""
        held = self.held(status)
        return "".join([lock for lock in self.nodes[node][0][done] if lock not in held])

    def may_ask(self, status):
        """Returns whether the last job, if it runs now, may ask for more than its plan."""
        node, _, done, over = status
        return over == 1 or done == len(self.nodes[node][0]) - 1

    def come(self, status, node, door):
        """Returns the status after a job of this node has come, or has been turned away at this door."""
        if self.unfinished(status) or (door == "shut" and not self.allows(status, node)):
            return status
        return (node, 0, 0, 0)

    def ran(self, status, more, guard):
        """Returns the status after the last job has run and asked for this much more under this guard."""
        node, age, done, over = status
        if over == 0:
            done += 1
        if done == len(self.nodes[node][0]):
            over = 1 if more == 1 and guard != "cut" else 0
        return (node, age, done, over)

    def aged(self, status):
        """Returns the status after a tick has passed."""
        node, age, done, over = status
        if node < 0:
            return status
        return (node, min(age + 1, self.cap(node)), done, over)


def are_nodes(nodes):
    """Returns whether there are one or two nodes, each with a plan and a due that keep the rules."""
    if not 1 <= len(nodes) <= MAX_NODES:
        return False
    for plan, due in nodes:
        if not (1 <= len(plan) <= MAX_PLAN and len(plan) <= due <= MAX_TICKS):
            return False
        if not all([is_entry(entry) for entry in plan]):
            return False
    return True


def is_entry(entry):
    """Returns whether this is a string of different locks in ascending order."""
    return entry == "".join([lock for lock in LOCKS if lock in entry])


def are_edges(nodes, edges):
    """Returns whether the edges keep the rules, between these nodes that keep theirs."""
    count = len(nodes)
    if not all([0 <= u < count and 0 <= v < count for u, v, _ in edges]):
        return False
    if not all([nodes[u][1] <= gap <= MAX_TICKS for u, _, gap in edges]):
        return False
    return len({(u, v) for u, v, _ in edges}) == len(edges)

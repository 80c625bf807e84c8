"""Halls: queues from which cores run loose tasks, and books about how they take tasks from each other."""

from firstbreach.errors import BadAct, InvalidHall

TAKING_RULES = ("again", "any", "half")
MAX_LEAST = 5
MAX_QUEUES = 3
MAX_LOOSE = 5


class Taking:
    """From which queues a core may take, and rules about how it does so."""

    def __init__(self, least, *rules):
        self.least = tuple(least)
        self.rules = tuple(sorted(rules))
        if not (1 <= len(self.least) <= MAX_LEAST and all([0 <= entry <= MAX_LOOSE for entry in self.least])):
            raise InvalidHall("a list of least lengths breaks a rule")
        if not all([rule in TAKING_RULES for rule in rules]) or len(set(rules)) != len(rules):
            raise InvalidHall("there is no such rule, or a rule stands twice")

    def may_take(self, own, other):
        """Returns whether a core whose queue has this length may take from a queue with the other length."""
        if own >= len(self.least) or self.least[own] == 0:
            return False
        return other >= self.least[own]

    def picks(self, queues, core):
        """Returns the ascending list of the picks with which the core may look at a queue, or [-1] if it may not."""
        own = len(queues[core])
        found = [q for q, queue in enumerate(queues) if q != core and self.may_take(own, len(queue))]
        if not found:
            return [-1]
        if "any" in self.rules:
            return found
        longest = max([len(queues[number]) for number in found])
        return [[number for number in found if len(queues[number]) == longest][0]]

    def taken(self, queues, core, other):
        """Returns how many tasks the core takes from the other queue, at which it has looked."""
        own_length, length = len(queues[core]), len(queues[other])
        if length == 0 or ("again" in self.rules and not self.may_take(own_length, length)):
            return 0
        if "half" in self.rules:
            return max(1, (length - own_length) // 2)
        return 1


class Hall:
    """Queues of loose tasks, one for each core that serves the hall, and the taking book."""

    def __init__(self, queues, taking):
        self.queues = tuple([tuple(queue) for queue in queues])
        self.taking = taking
        numbers = sorted([number for queue in self.queues for number in queue])
        if not 1 <= len(self.queues) <= MAX_QUEUES:
            raise InvalidHall("a hall has 1 to 3 queues")
        if len(numbers) > MAX_LOOSE or numbers != list(range(len(numbers))):
            raise InvalidHall("each of the loose tasks stands in one queue")

    def start(self):
        """Returns the position with the hall's queues, in which no core has looked."""
        return (self.queues, tuple([-1 for _ in self.queues]))

    def acts(self, position):
        """Returns the list of the tuples (core, pick, next, ran, wasted) of all possible acts, by core, then pick."""
        found = []
        for core in range(len(self.queues)):
            found.extend(self.acts_of(position, core))
        return found

    def acts_of(self, position, core):
        """Returns the list of the tuples of the possible acts of this core, ascending by pick."""
        queues, looks = position
        if looks[core] >= 0:
            count = self.taking.taken(queues, core, looks[core])
            present = after_taking(queues, core, looks[core], count)
            return [finished(present, looks, core, -1, -1)]
        return [finished(queues, looks, core, pick, pick) for pick in self.taking.picks(queues, core)]

    def act(self, position, core, pick):
        """Returns the tuple of one act."""
        found = self.found_act(position, core, pick)
        if found is None:
            raise BadAct(0)
        return found

    def found_act(self, position, core, pick):
        """Returns the tuple of one act, or None if it is not possible."""
        if not 0 <= core < len(self.queues):
            return None
        found = [one for one in self.acts_of(position, core) if one[1] == pick]
        return found[0] if found else None

    def play(self, acts):
        """Returns the list of the tuples of these acts, from the start."""
        position = self.start()
        found = []
        for index, (core, pick) in enumerate(acts):
            one = self.found_act(position, core, pick)
            if one is None:
                raise BadAct(index)
            found.append(one)
            position = one[2]
        return found


def after_taking(queues, core, other, count):
    """Returns the tuple of the queues after the core has taken this many tasks from the end of the other queue."""
    present = [tuple(queue) for queue in queues]
    kept = len(present[other]) - count
    present[core] = present[core] + present[other][kept:]
    present[other] = present[other][:kept]
    return tuple(present)


def finished(queues, looks, core, pick, look):
    """Returns the tuple of an act whose core has taken and looked by now: its first task, if there is one, runs."""
    present = [tuple(queue) for queue in queues]
    later_looks = list(looks)
    later_looks[core] = look
    ran = -1
    wasted = 0
    if present[core]:
        ran = present[core][0]
        present[core] = present[core][1:] + (ran,)
    elif any([len(queue) >= 2 for queue in present]):
        wasted = 1
    return (core, pick, (tuple(present), tuple(later_looks)), ran, wasted)

"""Levels: cores whose servers lend their ticks to guests, which are levels themselves."""

from firstbreach.errors import BadRow, InvalidLevel, UnknownParty, UnknownPath
from firstbreach.supplies import Supply

MAX_CORES = 3
TOP = ()


class Level:
    """A core with guests for some of its servers."""

    def __init__(self, core, guests=None):
        given = {} if guests is None else guests
        self.core = core
        self.guests = {number: given[number] for number in sorted(list(given))}
        self.paths = [TOP] + [(number,) + path for number, guest in self.guests.items() for path in guest.paths]
        self.parties = sorted([(TOP, party) for party in core.parties] + lent_parties(self.guests))
        if len(self.paths) > MAX_CORES or not all([lends(core, number, given[number].core) for number in given]):
            raise InvalidLevel("a level breaks a rule")

    def __iter__(self):
        return iter(self.paths)

    def __contains__(self, path):
        return tuple(path) in self.paths

    def __getitem__(self, path):
        return level_at(self, path).core

    def start(self):
        """Returns the joint standing at the start."""
        return (self.core.start(), tuple([guest.start() for guest in self.guests.values()]))

    def begun(self, start):
        """Returns the joint standing start, or the one at the start if it is None."""
        return self.start() if start is None else tupled(start)

    def after(self, joint, row):
        """Returns the joint standing after the joint row."""
        if not self.is_possible(joint, row):
            raise BadRow(0)
        return self.led_to(joint, row)

    def led_to(self, joint, row):
        """Returns the joint standing after a joint row that is possible."""
        standing, inner = joint
        own, lent = row
        later = [guest.led_to(part, guest_row) for guest, part, guest_row in zip(self.guests.values(), inner, lent)]
        return (self.core.led_to(standing, own), tuple(later))

    def is_possible(self, joint, row):
        """Returns whether the joint row is possible in the joint standing."""
        standing, inner = joint
        own, lent = row
        if len(lent) != len(self.guests) or not self.core.is_possible(standing, own):
            return False
        for (number, guest), part, guest_row in zip(self.guests.items(), inner, lent):
            if guest_row[0][0] != lent_bit(own, number) or not guest.is_possible(part, guest_row):
                return False
        return True

    def play(self, rows, *, start=None):
        """Returns the list of the joint standings after each of the joint rows."""
        joint = self.begun(start)
        joints = []
        for index, row in enumerate(rows):
            if not self.is_possible(joint, row):
                raise BadRow(index)
            joint = self.led_to(joint, row)
            joints.append(joint)
        return joints

    def breaches(self, joint, row):
        """Returns the ascending list of the pairs (path, party) of which the joint row is a breach."""
        if not self.is_possible(joint, row):
            raise BadRow(0)
        standing, inner = joint
        own, lent = row
        found = [(TOP, party) for party in self.core.breaches(standing, own)]
        for (number, guest), part, guest_row in zip(self.guests.items(), inner, lent):
            found.extend([((number,) + path, party) for path, party in guest.breaches(part, guest_row)])
        return sorted(found)

    def joint_options(self, joint, kept):
        """Yields the possible joint rows that are no breach of any pair in kept, ascending."""
        self.check_parties(kept)
        standing, inner = joint
        lent = []
        for (number, guest), part in zip(self.guests.items(), inner):
            guest_kept = kept_inside(kept, number)
            guest_rows = list(guest.joint_options(part, guest_kept))
            lent.append((number, guest_rows))
        own_kept = kept_on_top(kept)
        for row in self.core.options(standing, own_kept):
            for beside in lent_rows(row, lent):
                yield (row, beside)

    def check_parties(self, kept):
        """Raises UnknownParty for the first listed pair that is no party of the level."""
        for pair in kept:
            if pair not in self.parties:
                raise UnknownParty(pair)

    def part(self, joint, path):
        """Returns the standing, or the row, of the core with this path in a joint standing or a joint row."""
        here = joint
        for place in self.places_to(path):
            here = here[1][place]
        return tupled(here[0])

    def with_part(self, joint, path, standing):
        """Returns the joint standing with another standing of the core with this path."""
        if len(path) == 0:
            return (standing, joint[1])
        number = path[0]
        place = list(self.guests).index(number)
        inner = list(joint[1])
        inner[place] = self.guests[number].with_part(inner[place], path[1:], standing)
        return (joint[0], tuple(inner))

    def places_to(self, path):
        """Returns the list of the places, among the guests of each host, that lead to the core with this path."""
        if path not in self:
            raise UnknownPath(path)
        places = []
        level = self
        for number in path:
            places.append(list(level.guests).index(number))
            level = level.guests[number]
        return places

    def joined(self, path, task):
        """Returns a new level whose core with this path has this task as its last one."""
        there = level_at(self, path)
        core = there.core.changed(tasks=there.core.tasks + (task,))
        return self.with_level(path, Level(core, there.guests))

    def left(self, path, number):
        """Returns a new level whose core with this path lacks the task with this number."""
        there = level_at(self, path)
        core = there.core.changed(tasks=there.core.tasks[:number] + there.core.tasks[number + 1:])
        guests = {other - 1 if other > number else other: guest for other, guest in there.guests.items()}
        return self.with_level(path, Level(core, guests))

    def exchanged(self, path, core):
        """Returns a new level with this core at this path."""
        there = level_at(self, path)
        return self.with_level(path, Level(core, there.guests))

    def with_level(self, path, level):
        """Returns a new level with this level in place of the one with this path."""
        if len(path) == 0:
            return level
        guests = {number: guest for number, guest in self.guests.items()}
        guests[path[0]] = guests[path[0]].with_level(path[1:], level)
        return Level(self.core, guests)


def lent_parties(guests):
    """Returns the list of the parties that a level has from its guests, all but what they are supplied by."""
    found = []
    for number, guest in guests.items():
        found.extend([((number,) + path, party) for path, party in guest.parties if (path, party) != (TOP, "supply")])
    return found


def lends(core, number, guest_core):
    """Returns whether the task with this number is a server of the core on which the guest's core can rely."""
    if not (0 <= number < len(core.tasks) and core.tasks[number].server):
        return False
    task = core.tasks[number]
    return Supply.share(len(task.nodes[0][0]), task.edges[0][2]).within(guest_core.supply)


def level_at(level, path):
    """Returns the level whose core is the one with this path."""
    if path not in level:
        raise UnknownPath(path)
    found = level
    for number in path:
        found = found.guests[number]
    return found


def tupled(value):
    """Returns the value with tuples in place of its lists."""
    if isinstance(value, (list, tuple)):
        return tuple([tupled(part) for part in value])
    return value


def lent_bit(row, number):
    """Returns the tick that a host's row gives to the guest of the server with this number."""
    return 1 if row[2] == number else 0


def kept_on_top(kept):
    """Returns the list of the parties of the top core in a list of pairs."""
    return [party for path, party in kept if path == TOP]


def kept_inside(kept, number):
    """Returns the list of the pairs of the guest of this server in a list of pairs, as the guest has them."""
    return [(path[1:], party) for path, party in kept if path[:1] == (number,)]


def lent_rows(row, lent):
    """Returns the ascending list of the tuples of joint rows that guests may have beside this row of their host.

    lent has for each guest a pair of the number of its server and the ascending list of its joint rows.
    """
    found = [()]
    for number, guest_rows in lent:
        bit = lent_bit(row, number)
        found = [before + (guest_row,) for before in found for guest_row in guest_rows if guest_row[0][0] == bit]
    return found


def lifted(rows):
    """Returns the list of the joint rows (row, ()), for a level without guests."""
    return [(tupled(row), ()) for row in rows]

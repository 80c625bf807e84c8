"""Outline: the order of the lines of the text of a plan."""

from firstbreach.errors import BadText
from firstbreach.spelling import is_name, is_number, wrong_behind

MAX_NAMES = 3
GREATEST = 9999

# For each first word of a line, and "" for the beginning of the text, the first words that may follow.
FOLLOWERS = {
    "": ("core",),
    "core": ("supply",),
    "supply": ("choice", "door", "guard", "task", "core", "taking"),
    "choice": ("door", "guard", "task", "core", "taking"),
    "door": ("guard", "task", "core", "taking"),
    "guard": ("task", "core", "taking"),
    "task": ("node",),
    "node": ("node", "edge", "task", "core", "taking"),
    "edge": ("edge", "task", "core", "taking"),
    "taking": ("queue",),
    "queue": ("queue",),
}


class Outline:
    """What the lines so far leave open: which lines may stand next, and whether the text may end."""

    def __init__(self):
        self._last = ""
        self._names = []
        # The paths of the blocks of the last name.
        self._paths = []
        self._queues = 0

    def wrong_word(self, parts):
        """Returns the number of the first word at which this is no line that can stand next, or 0."""
        if parts[0] not in self.followers():
            return 1
        if parts[0] == "core":
            return self.wrong_in_core(parts[1:])
        return wrong_behind(parts[0], parts[1:])

    def followers(self):
        """Returns the list of the first words that the next line may have."""
        found = list(FOLLOWERS[self._last])
        if self._queues == len(self._names) and self._queues > 0:
            found.remove("queue")
        if "core" in found and len(self._names) == MAX_NAMES and not self.may_go_on():
            found.remove("core")
        return found

    def wrong_in_core(self, given):
        """Returns what wrong_word does, for the words behind the word core."""
        if not given:
            return 2
        if self.may_begin(given[0]):
            return 0 if len(given) == 1 else 3
        if not (self.may_go_on() and given[0] == self._names[-1]):
            return 2
        if len(given) == 1 or not (is_number(given[1]) and self.leads_on(int(given[1]))):
            return 3
        number = int(given[1])
        if len(given) == 2:
            return 0 if (number,) > self._paths[-1] else 4
        if not (is_number(given[2]) and self.may_follow(number, int(given[2]))):
            return 4
        return 0 if len(given) == 3 else 5

    def may_begin(self, name):
        """Returns whether a level with this name may begin."""
        return is_name(name) and name not in self._names and len(self._names) < MAX_NAMES

    def may_go_on(self):
        """Returns whether a further core of the last name may follow."""
        return len(self._paths) > 0 and self.leads_on(GREATEST)

    def leads_on(self, number):
        """Returns whether a path that may follow begins with this number."""
        return (number,) > self._paths[-1] or self.may_follow(number, GREATEST)

    def may_follow(self, number, second):
        """Returns whether the path with these two numbers may follow."""
        return (number,) in self._paths and (number, second) > self._paths[-1]

    def take(self, parts):
        """Takes the words of the next line."""
        self._last = parts[0]
        if parts[0] == "core":
            if len(parts) == 2:
                self._names.append(parts[1])
                self._paths = []
            self._paths.append(tuple([int(number) for number in parts[2:]]))
        if parts[0] == "queue":
            self._queues += 1

    def may_end(self):
        """Returns whether the text may end here."""
        if self._last == "queue":
            return self._queues == len(self._names)
        return "core" in FOLLOWERS[self._last] and self._last != ""


def lines_of(text):
    """Returns the list of the lists of the words of the lines of a text that keeps the syntax."""
    lines = text.split("\n")
    # What stands behind the last line feed is a line only if it is not empty.
    unended = lines.pop()
    if unended != "":
        lines.append(unended)
    outline = Outline()
    found = []
    for number, line in enumerate(lines, start=1):
        parts = line.split(" ")
        wrong = outline.wrong_word(parts)
        if wrong > 0:
            raise BadText(number, wrong)
        outline.take(parts)
        found.append(parts)
    if not outline.may_end():
        raise BadText(len(lines) + 1, 1)
    if unended != "":
        raise BadText(len(lines), len(found[-1]) + 1)
    return found

"""The errors of the program, each with the attributes that the document lists."""


def copied(value):
    """Returns the value with new lists in place of its lists, so that later changes do not reach an error."""
    if isinstance(value, list):
        return [copied(part) for part in value]
    if isinstance(value, tuple):
        return tuple([copied(part) for part in value])
    return value


class BreachError(ValueError):
    """The base class of all errors."""


class InvalidSupply(BreachError):
    """A supply or a share breaks a rule."""


class NothingCommon(BreachError):
    """Two supplies have no common words that go on for ever."""


class InvalidTask(BreachError):
    """A task breaks a rule."""


class InvalidChoice(BreachError):
    """A choice has another order or rule, or a rule twice."""


class InvalidCore(BreachError):
    """A core has too many tasks, or another door or guard."""


class TooLarge(BreachError):
    """Something has more than the bound allows."""

    def __init__(self, bound):
        super().__init__("the bound is exceeded")
        self.bound = bound


class BadRow(BreachError):
    """The row with this index is not possible."""

    def __init__(self, index):
        super().__init__("a row is not possible")
        self.index = index


class UnknownParty(BreachError):
    """This is no party."""

    def __init__(self, party):
        super().__init__("there is no such party")
        self.party = copied(party)


class InvalidPromise(BreachError):
    """A promise does not fit the core."""


class NotPlain(BreachError):
    """A core is not plain."""


class NotEnough(BreachError):
    """A set of parties is not enough for a promise, as this run shows."""

    def __init__(self, run):
        super().__init__("the parties are not enough")
        self.run = copied(run)


class Needless(BreachError):
    """A set of parties is enough without this party."""

    def __init__(self, party):
        super().__init__("the parties are enough without one of them")
        self.party = copied(party)


class InvalidChange(BreachError):
    """This change cannot be made."""

    def __init__(self, change):
        super().__init__("a change cannot be made")
        self.change = copied(change)


class InvalidLevel(BreachError):
    """A level breaks a rule."""


class UnknownPath(BreachError):
    """A level has no core with this path."""

    def __init__(self, path):
        super().__init__("there is no core with this path")
        self.path = copied(path)


class InvalidHall(BreachError):
    """A hall or a taking book breaks a rule."""


class BadAct(BreachError):
    """The act with this index is not possible."""

    def __init__(self, index):
        super().__init__("an act is not possible")
        self.index = index


class BadText(BreachError):
    """A text is wrong at this word of this line."""

    def __init__(self, line, word):
        super().__init__("a text is wrong")
        self.line = line
        self.word = word


class InvalidHouse(BreachError):
    """A house breaks a rule."""


class UnknownCore(BreachError):
    """A house has no level with this name."""

    def __init__(self, name):
        super().__init__("there is no core with this name")
        self.name = name


class NotNow(BreachError):
    """This task cannot leave now."""

    def __init__(self, task):
        super().__init__("the task cannot leave now")
        self.task = task


class Broken(BreachError):
    """The promise of this task of the core with this path breaks."""

    def __init__(self, path, task):
        super().__init__("a promise breaks")
        self.path = copied(path)
        self.task = task


class Refused(BreachError):
    """A deed would break the promise of this task of the core with this path, as this run shows."""

    def __init__(self, run, path, task):
        super().__init__("a deed is refused")
        self.run = copied(run)
        self.path = copied(path)
        self.task = task

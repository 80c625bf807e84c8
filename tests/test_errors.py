"""The list of errors of the document."""

import unittest

from firstbreach import errors

ATTRIBUTES = {
    "InvalidSupply": (),
    "NothingCommon": (),
    "InvalidTask": (),
    "InvalidChoice": (),
    "InvalidCore": (),
    "TooLarge": ("bound",),
    "BadRow": ("index",),
    "UnknownParty": ("party",),
    "InvalidPromise": (),
    "NotPlain": (),
    "NotEnough": ("run",),
    "Needless": ("party",),
    "InvalidChange": ("change",),
    "InvalidLevel": (),
    "UnknownPath": ("path",),
    "InvalidHall": (),
    "BadAct": ("index",),
    "BadText": ("line", "word"),
    "InvalidHouse": (),
    "UnknownCore": ("name",),
    "NotNow": ("task",),
    "Broken": ("path", "task"),
    "Refused": ("run", "path", "task"),
}

VALUES = {
    "bound": 100000,
    "index": 3,
    "party": "gaps0",
    "run": [(1, (0,), 0, 0), (0, (-1,), -1, 0)],
    "change": ("plan", 0, 0, ("a", "")),
    "path": (1, 0),
    "line": 4,
    "word": 2,
    "name": "north",
    "task": 2,
}


class ErrorsTest(unittest.TestCase):
    def test_the_base_class_is_a_value_error(self):
        self.assertEqual(errors.BreachError.__bases__, (ValueError,))

    def test_there_are_23_classes_directly_under_the_base_class(self):
        self.assertEqual(len(ATTRIBUTES), 23)
        found = {one.__name__ for one in errors.BreachError.__subclasses__()}
        self.assertEqual(found, set(ATTRIBUTES))
        for name in ATTRIBUTES:
            self.assertEqual(getattr(errors, name).__bases__, (errors.BreachError,), name)

    def test_attributes_are_passed_by_position_in_the_listed_order(self):
        for name, attributes in ATTRIBUTES.items():
            error = getattr(errors, name)(*[VALUES[attribute] for attribute in attributes])
            self.assertEqual(vars(error), {attribute: VALUES[attribute] for attribute in attributes}, name)

    def test_attributes_are_told_apart(self):
        error = errors.BadText(7, 9)
        self.assertEqual((error.line, error.word), (7, 9))
        error = errors.Broken((1,), 2)
        self.assertEqual((error.path, error.task), ((1,), 2))
        error = errors.Refused([], (1,), 2)
        self.assertEqual((error.run, error.path, error.task), ([], (1,), 2))
        self.assertEqual(errors.UnknownParty(((0,), "gaps1")).party, ((0,), "gaps1"))

    def test_errors_copy_what_they_are_passed(self):
        for make in (errors.NotEnough, lambda run: errors.Refused(run, (), 0)):
            run = [(1, (), -1, 0)]
            error = make(run)
            run.append("more")
            self.assertEqual(error.run, [(1, (), -1, 0)])
        rules = ["lend"]
        error = errors.InvalidChange(("rules", rules))
        rules.append("ceil")
        self.assertEqual(error.change, ("rules", ["lend"]))

    def test_each_error_is_raised_and_caught_by_the_base_class(self):
        for name, attributes in ATTRIBUTES.items():
            with self.assertRaises(errors.BreachError):
                raise getattr(errors, name)(*[VALUES[attribute] for attribute in attributes])
            with self.assertRaises(ValueError):
                raise getattr(errors, name)(*[VALUES[attribute] for attribute in attributes])


if __name__ == "__main__":
    unittest.main()

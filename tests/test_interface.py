"""The opening of "The interface": names, arguments and places of what the document lists."""

import importlib
import inspect
import unittest

FUNCTIONS = {
    "promises": {
        "first_mark": "(core, promise)",
        "next_mark": "(core, promise, mark, standing, row, after)",
        "in_ring": "(core, standing)",
    },
    "judging": {
        "judge": "(core, promise, kept, *, start=None)",
        "breaks_at": "(core, promise, rows, *, start=None)",
    },
    "windows": {
        "parting": "(a, b)",
        "least_given": "(supply, ticks)",
        "most_given": "(supply, ticks)",
        "poorest": "(supply, ticks)",
        "delay": "(supply, count)",
    },
    "rates": {"rate": "(supply)", "shares": "(supply, longest)"},
    "arrivals": {
        "first_bad": "(task, arrivals)",
        "coming": "(task, ticks)",
        "most_asked": "(task, ticks)",
        "asking": "(task, ticks)",
    },
    "loads": {"load": "(task)", "total_load": "(tasks)"},
    "demand": {"demand": "(core)", "room": "(core, due, gap)"},
    "waits": {
        "holders": "(core, standing)",
        "waits": "(core, standing)",
        "runs_for": "(core, standing)",
    },
    "holdups": {
        "held_up": "(core, task)",
        "hinderers": "(core, task)",
        "stretch": "(core, task)",
    },
    "responses": {
        "response": "(core, task, node)",
        "lateness": "(core, task)",
        "busy": "(core)",
    },
    "leftovers": {"leftover": "(core, kept)", "stairs": "(core, longest)"},
    "rests": {
        "least_sets": "(core, promise)",
        "lacking": "(core, promise, parties)",
        "isolated": "(core, promise, task)",
    },
    "culprits": {"culprits": "(core, promise)", "crossing": "(sets)"},
    "healing": {
        "apply_change": "(core, change)",
        "healings": "(core, promises, changes)",
        "unhealed": "(core, promises, changes, chosen)",
    },
}

METHODS = {
    ("supplies", "Supply"): {
        "__init__": "(self, size, steps, *, starts=(0,))",
        "after": "(self, states, bit)",
        "reached": "(self)",
        "words": "(self, count)",
        "within": "(self, other)",
        "__contains__": "(self, word)",
        "__and__": "(self, other)",
        "__or__": "(self, other)",
    },
    ("tasks", "Task"): {
        "__init__": "(self, nodes, edges, *, steady=False)",
        "cap": "(self, node)",
        "unfinished": "(self, status)",
        "allows": "(self, status, node)",
        "owes": "(self, status)",
        "held": "(self, status)",
        "needed": "(self, status)",
    },
    ("choices", "Choice"): {
        "__init__": "(self, order='first', *rules)",
        "levels": "(self, tasks)",
        "ceiling": "(self, tasks, lock)",
        "urgent": "(self, tasks, statuses, guard)",
        "blocker": "(self, tasks, statuses, number)",
        "__call__": "(self, tasks, statuses, guard)",
    },
    ("cores", "Core"): {
        "__init__": "(self, supply, *tasks, choice=None, door='shut', guard='cut')",
        "__iter__": "(self)",
        "changed": "(self, *, supply=None, tasks=None, choice=None, door=None, guard=None)",
        "start": "(self)",
        "arrived": "(self, standing, comes)",
        "chosen": "(self, standing, comes)",
        "after": "(self, standing, row)",
        "breaches": "(self, standing, row)",
        "options": "(self, standing, kept)",
        "play": "(self, rows, *, start=None)",
    },
    ("promises", "Due"): {"__init__": "(self, task, *, late=0)"},
    ("promises", "Spare"): {"__init__": "(self, given, period)"},
    ("promises", "Fed"): {"__init__": "(self, task)"},
    ("judging", "Verdict"): {"__bool__": "(self)"},
    ("demand", "Demand"): {"__bool__": "(self)"},
}

CLASS_METHODS = {
    ("supplies", "Supply"): {"share": "(q, p)", "always": "()"},
    ("tasks", "Task"): {"plain": "(length, due, gap)", "serving": "(length, gap)"},
}

CLASSES = {
    "promises": ("Promise", "Due", "Spare", "Fed", "Free"),
    "judging": ("Verdict",),
    "rates": ("Rate",),
    "loads": ("Load",),
    "demand": ("Demand",),
}


def module(name):
    return importlib.import_module("firstbreach." + name)


class InterfaceTest(unittest.TestCase):
    def test_functions_stand_in_their_modules(self):
        for name, functions in FUNCTIONS.items():
            for function, signature in functions.items():
                one = getattr(module(name), function)
                self.assertEqual(one.__module__, "firstbreach." + name)
                self.assertEqual(str(inspect.signature(one)), signature, function)

    def test_methods_stand_in_their_classes(self):
        for (name, one), methods in METHODS.items():
            own = vars(getattr(module(name), one))
            for method, signature in methods.items():
                self.assertEqual(str(inspect.signature(own[method])), signature, (one, method))

    def test_class_methods(self):
        for (name, one), methods in CLASS_METHODS.items():
            for method, signature in methods.items():
                self.assertIsInstance(vars(getattr(module(name), one))[method], classmethod)
                self.assertEqual(str(inspect.signature(getattr(getattr(module(name), one), method))), signature)

    def test_classes_stand_in_their_modules(self):
        for name, classes in CLASSES.items():
            for one in classes:
                self.assertEqual(getattr(module(name), one).__module__, "firstbreach." + name)

    def test_other_names(self):
        self.assertIsInstance(vars(module("tasks").Task)["server"], property)
        self.assertEqual(module("tasks").NONE, (-1, 0, 0, 0))

    def test_generators(self):
        self.assertTrue(inspect.isgeneratorfunction(module("supplies").Supply.words))
        self.assertTrue(inspect.isgeneratorfunction(module("cores").Core.options))
        self.assertTrue(inspect.isgeneratorfunction(module("arrivals").coming))


if __name__ == "__main__":
    unittest.main()

"""The opening of "The interface": names, arguments and places of what the document lists."""

import importlib
import inspect
import unittest

FUNCTIONS = {
    "promises": {
        "first_mark": "(core, promise)",
        "next_mark": "(core, promise, mark, standing, row, after)",
        "in_ring": "(core, standing)",
    },
    "judging": {
        "judge": "(core, promise, kept, *, start=None)",
        "breaks_at": "(core, promise, rows, *, start=None)",
    },
    "windows": {
        "parting": "(a, b)",
        "least_given": "(supply, ticks)",
        "most_given": "(supply, ticks)",
        "poorest": "(supply, ticks)",
        "delay": "(supply, count)",
    },
    "rates": {"rate": "(supply)", "shares": "(supply, longest)"},
    "arrivals": {
        "first_bad": "(task, arrivals)",
        "coming": "(task, ticks)",
        "most_asked": "(task, ticks)",
        "asking": "(task, ticks)",
    },
    "loads": {"load": "(task)", "total_load": "(tasks)"},
    "demand": {"demand": "(core)", "room": "(core, due, gap)"},
    "waits": {
        "holders": "(core, standing)",
        "waits": "(core, standing)",
        "runs_for": "(core, standing)",
    },
    "holdups": {
        "held_up": "(core, task)",
        "hinderers": "(core, task)",
        "stretch": "(core, task)",
    },
    "responses": {
        "response": "(core, task, node)",
        "lateness": "(core, task)",
        "busy": "(core)",
    },
    "leftovers": {"leftover": "(core, kept)", "stairs": "(core, longest)"},
    "rests": {
        "least_sets": "(core, promise)",
        "lacking": "(core, promise, parties)",
        "isolated": "(core, promise, task)",
    },
    "culprits": {"culprits": "(core, promise)", "crossing": "(sets)"},
    "healing": {
        "apply_change": "(core, change)",
        "healings": "(core, promises, changes)",
        "unhealed": "(core, promises, changes, chosen)",
    },
    "levels": {"lifted": "(rows)"},
    "lending": {
        "together": "(level, path, promise, kept=None, *, start=None)",
        "papers": "(level, path, promise)",
        "outcome": "(level, path, promise)",
        "fault_of": "(level, path, promise, rows)",
    },
    "settling": {"settle": "(hall)", "serve": "(hall, task)"},
    "traces": {
        "row_text": "(row)",
        "read_row": "(text)",
        "write_trace": "(rows)",
        "read_trace": "(data)",
        "as_bytes": "(text)",
        "as_text": "(data)",
    },
    "writing": {"plan_text": "(levels, hall=None)"},
    "reading": {"read_plan": "(text)"},
    "desks": {"rehearse": "(desk, deeds)"},
}

METHODS = {
    ("supplies", "Supply"): {
        "__init__": "(self, size, steps, *, starts=(0,))",
        "after": "(self, states, bit)",
        "reached": "(self)",
        "words": "(self, count)",
        "within": "(self, other)",
        "__contains__": "(self, word)",
        "__and__": "(self, other)",
        "__or__": "(self, other)",
    },
    ("tasks", "Task"): {
        "__init__": "(self, nodes, edges, *, steady=False)",
        "cap": "(self, node)",
        "unfinished": "(self, status)",
        "allows": "(self, status, node)",
        "owes": "(self, status)",
        "held": "(self, status)",
        "needed": "(self, status)",
    },
    ("choices", "Choice"): {
        "__init__": "(self, order='first', *rules)",
        "levels": "(self, tasks)",
        "ceiling": "(self, tasks, lock)",
        "urgent": "(self, tasks, statuses, guard)",
        "blocker": "(self, tasks, statuses, number)",
        "__call__": "(self, tasks, statuses, guard)",
    },
    ("cores", "Core"): {
        "__init__": "(self, supply, *tasks, choice=None, door='shut', guard='cut')",
        "__iter__": "(self)",
        "changed": "(self, *, supply=None, tasks=None, choice=None, door=None, guard=None)",
        "start": "(self)",
        "arrived": "(self, standing, comes)",
        "chosen": "(self, standing, comes)",
        "after": "(self, standing, row)",
        "breaches": "(self, standing, row)",
        "options": "(self, standing, kept)",
        "play": "(self, rows, *, start=None)",
    },
    ("promises", "Due"): {"__init__": "(self, task, *, late=0)"},
    ("promises", "Spare"): {"__init__": "(self, given, period)"},
    ("promises", "Fed"): {"__init__": "(self, task)"},
    ("judging", "Verdict"): {"__bool__": "(self)"},
    ("demand", "Demand"): {"__bool__": "(self)"},
    ("levels", "Level"): {
        "__init__": "(self, core, guests=None)",
        "__iter__": "(self)",
        "__contains__": "(self, path)",
        "__getitem__": "(self, path)",
        "start": "(self)",
        "after": "(self, joint, row)",
        "play": "(self, rows, *, start=None)",
        "breaches": "(self, joint, row)",
        "joint_options": "(self, joint, kept)",
        "part": "(self, joint, path)",
        "joined": "(self, path, task)",
        "left": "(self, path, number)",
        "exchanged": "(self, path, core)",
    },
    ("halls", "Taking"): {"__init__": "(self, least, *rules)"},
    ("halls", "Hall"): {
        "__init__": "(self, queues, taking)",
        "start": "(self)",
        "acts": "(self, position)",
        "act": "(self, position, core, pick)",
        "play": "(self, acts)",
    },
    ("settling", "Settled"): {"__bool__": "(self)"},
    ("replay", "Replay"): {
        "__init__": "(self, level, rows, *, start=None)",
        "broken": "(self, path, promise)",
        "account": "(self, path, promise, sets)",
        "rows_of": "(self, path)",
    },
    ("houses", "House"): {
        "__init__": "(self, levels, hall=None)",
        "level_of": "(self, name)",
        "joint_of": "(self, name)",
        "tick": "(self, rows, *, picks=None)",
        "breach_ticks": "(self)",
    },
    ("desks", "Desk"): {
        "__init__": "(self, house)",
        "secure": "(self, name)",
        "ask": "(self, name, task, *, path=())",
        "leave": "(self, name, number, *, path=())",
        "exchange": "(self, name, *, path=(), choice=None, door=None, guard=None)",
        "tick": "(self, rows, *, picks=None)",
    },
    ("desks", "Trial"): {"__init__": "(self, desk)", "__enter__": "(self)"},
}

PROPERTIES = {
    ("tasks", "Task"): ("server",),
    ("replay", "Replay"): ("first",),
    ("houses", "House"): ("clock", "position", "wasted"),
}

CLASS_METHODS = {
    ("supplies", "Supply"): {"share": "(q, p)", "always": "()"},
    ("tasks", "Task"): {"plain": "(length, due, gap)", "serving": "(length, gap)"},
}

CLASSES = {
    "promises": ("Promise", "Due", "Spare", "Fed", "Free"),
    "judging": ("Verdict",),
    "rates": ("Rate",),
    "loads": ("Load",),
    "demand": ("Demand",),
    "levels": ("Level",),
    "lending": ("Outcome",),
    "halls": ("Taking", "Hall"),
    "settling": ("Settled",),
    "replay": ("Replay",),
    "houses": ("House",),
    "desks": ("Desk", "Trial"),
}


def module(name):
    return importlib.import_module("firstbreach." + name)


class InterfaceTest(unittest.TestCase):
    def test_functions_stand_in_their_modules(self):
        for name, functions in FUNCTIONS.items():
            for function, signature in functions.items():
                one = getattr(module(name), function)
                self.assertEqual(one.__module__, "firstbreach." + name)
                self.assertEqual(str(inspect.signature(one)), signature, function)

    def test_methods_stand_in_their_classes(self):
        for (name, one), methods in METHODS.items():
            own = vars(getattr(module(name), one))
            for method, signature in methods.items():
                self.assertEqual(str(inspect.signature(own[method])), signature, (one, method))

    def test_class_methods(self):
        for (name, one), methods in CLASS_METHODS.items():
            for method, signature in methods.items():
                self.assertIsInstance(vars(getattr(module(name), one))[method], classmethod)
                self.assertEqual(str(inspect.signature(getattr(getattr(module(name), one), method))), signature)

    def test_classes_stand_in_their_modules(self):
        for name, classes in CLASSES.items():
            for one in classes:
                self.assertEqual(getattr(module(name), one).__module__, "firstbreach." + name)

    def test_properties(self):
        for (name, one), properties in PROPERTIES.items():
            for attribute in properties:
                self.assertIsInstance(vars(getattr(module(name), one))[attribute], property)

    def test_other_names(self):
        self.assertEqual(module("tasks").NONE, (-1, 0, 0, 0))

    def test_generators(self):
        self.assertTrue(inspect.isgeneratorfunction(module("supplies").Supply.words))
        self.assertTrue(inspect.isgeneratorfunction(module("cores").Core.options))
        self.assertTrue(inspect.isgeneratorfunction(module("arrivals").coming))
        self.assertTrue(inspect.isgeneratorfunction(module("levels").Level.joint_options))


if __name__ == "__main__":
    unittest.main()

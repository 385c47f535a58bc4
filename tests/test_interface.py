"""The interface as DOC.md lists it: names, arguments, bases, and the files that define them."""

import ast
import importlib
import inspect
import unittest
from pathlib import Path

PACKAGE = Path(__file__).resolve().parent.parent / "caseslive"

# For each file, the classes with their methods, and the functions, with their parameters.
CLASSES = {
    "errors": {
        "CaseError": {}, "InvalidProcess": {}, "InvalidSetting": {}, "TooLarge": {},
        "TooManyWays": {}, "TooManyTraces": {}, "NotReached": {}, "NotGood": {}, "Refused": {},
        "LogFull": {}, "JournalError": {"__init__": "(self, line)"}, "Changed": {},
        "Impossible": {},
    },
    "rules": {"Rule": {"__init__": "(self, accepting, moves)"}},
    "processes": {"Process": {"__init__": "(self, size, windows)"}},
    "settings": {"Setting": {"__init__": "(self, names, size, rules=(), optional=())"}},
}
FUNCTIONS = {
    "rules": {
        "state_after": "(rule, names, trace)",
        "accepts": "(rule, names, trace)",
        "verdict": "(rule, names, trace)",
    },
    "processes": {
        "windows_of": "(size, trace)",
        "allows": "(process, trace)",
        "tail_of": "(size, trace)",
        "next_tails": "(process, names, tail)",
        "can_stop": "(process, tail)",
    },
    "breaks": {"first_break": "(process, names, rules)"},
    "settings": {
        "least_process": "(setting, traces)",
        "free_windows": "(setting, traces)",
        "fits": "(setting, traces, numbers)",
    },
    "answers": {
        "answer": "(setting, traces, running, activity)",
        "variants": "(running, late, places, names)",
        "certain_answer": "(setting, traces, running, activity, late, places)",
    },
    "choices": {
        "greatest_sets": "(setting, traces)",
        "refused_sets": "(setting, traces)",
        "traces_aside": "(setting, traces)",
        "rules_aside": "(setting, traces)",
    },
}


def defined_in(module, kind):
    """The names that the file of the module itself defines."""
    tree = ast.parse((PACKAGE / (module + ".py")).read_text())
    return [node.name for node in tree.body if isinstance(node, kind)]


class Interface(unittest.TestCase):
    def test_classes(self):
        for module, classes in CLASSES.items():
            loaded = importlib.import_module("caseslive." + module)
            for name, methods in classes.items():
                self.assertIn(name, defined_in(module, ast.ClassDef))
                for method, parameters in methods.items():
                    found = vars(getattr(loaded, name))[method]
                    self.assertEqual(str(inspect.signature(found)), parameters, (name, method))

    def test_functions(self):
        for module, functions in FUNCTIONS.items():
            loaded = importlib.import_module("caseslive." + module)
            for name, parameters in functions.items():
                self.assertIn(name, defined_in(module, ast.FunctionDef))
                self.assertEqual(str(inspect.signature(getattr(loaded, name))), parameters, name)


if __name__ == "__main__":
    unittest.main()

"""The interface as DOC.md lists it: names, arguments, bases, and the files that define them."""

import ast
import importlib
import inspect
import unittest
from pathlib import Path

PACKAGE = Path(__file__).resolve().parent.parent / "caseslive"

# For each file, the classes with their methods, and the functions, with their parameters.
CLASSES = {
    "errors": {
        "CaseError": {}, "InvalidProcess": {}, "InvalidSetting": {}, "TooLarge": {},
        "TooManyWays": {}, "TooManyTraces": {}, "NotReached": {}, "NotGood": {}, "Refused": {},
        "LogFull": {}, "JournalError": {"__init__": "(self, line)"}, "Changed": {},
        "Impossible": {},
    },
    "rules": {"Rule": {"__init__": "(self, accepting, moves)"}},
    "processes": {"Process": {"__init__": "(self, size, windows)"}},
    "settings": {"Setting": {"__init__": "(self, names, size, rules=(), optional=())"}},
    "control": {"Net": {
        "__init__": "(self, process, names, rules, ours)", "count": "(self)",
        "node_of": "(self, trace)", "moves_of": "(self, node)", "is_final": "(self, node)",
        "is_good": "(self, node)", "allowed": "(self, trace)", "ranks": "(self)",
        "first_fault": "(self, ranks)",
    }},
    "logs": {"Log": {
        "__init__": "(self, setting)", "begin": "(self)", "put": "(self, case, place, activity)",
        "drop": "(self, case, place)", "complete": "(self, case)", "reopen": "(self, case)",
        "switch": "(self, rule, on)", "traces": "(self)", "is_completed": "(self, case)",
        "completed": "(self)", "is_on": "(self, rule)", "verdicts": "(self)", "stale": "(self)",
        "journal": "(self)",
    }},
}
PROPERTIES = {"logs": {"Log": ["work"]}}
FUNCTIONS = {
    "rules": {
        "state_after": "(rule, names, trace)",
        "accepts": "(rule, names, trace)",
        "verdict": "(rule, names, trace)",
    },
    "processes": {
        "windows_of": "(size, trace)",
        "allows": "(process, trace)",
        "tail_of": "(size, trace)",
        "next_tails": "(process, names, tail)",
        "can_stop": "(process, tail)",
    },
    "breaks": {"first_break": "(process, names, rules)"},
    "settings": {
        "least_process": "(setting, traces)",
        "free_windows": "(setting, traces)",
        "fits": "(setting, traces, numbers)",
    },
    "answers": {
        "answer": "(setting, traces, running, activity)",
        "variants": "(running, late, places, names)",
        "certain_answer": "(setting, traces, running, activity, late, places)",
    },
    "choices": {
        "greatest_sets": "(setting, traces)",
        "refused_sets": "(setting, traces)",
        "traces_aside": "(setting, traces)",
        "rules_aside": "(setting, traces)",
    },
    "alignments": {
        "tails_of": "(process, names)",
        "prices": "(process, names, trace, costs)",
        "align": "(process, names, trace, costs)",
        "first_fault": "(process, names, trace, costs, given)",
    },
    "changes": {
        "can_move": "(process, names, rules, trace)",
        "first_difference": "(first, second, names)",
    },
    "logs": {"replay": "(setting, text)"},
}


def defined_in(module, kind):
    """The names that the file of the module itself defines."""
    tree = ast.parse((PACKAGE / (module + ".py")).read_text())
    return [node.name for node in tree.body if isinstance(node, kind)]


class Interface(unittest.TestCase):
    def test_classes(self):
        for module, classes in CLASSES.items():
            loaded = importlib.import_module("caseslive." + module)
            for name, methods in classes.items():
                self.assertIn(name, defined_in(module, ast.ClassDef))
                for method, parameters in methods.items():
                    found = vars(getattr(loaded, name))[method]
                    self.assertEqual(str(inspect.signature(found)), parameters, (name, method))

    def test_properties(self):
        for module, classes in PROPERTIES.items():
            loaded = importlib.import_module("caseslive." + module)
            for name, properties in classes.items():
                for word in properties:
                    self.assertIsInstance(vars(getattr(loaded, name))[word], property)

    def test_functions(self):
        for module, functions in FUNCTIONS.items():
            loaded = importlib.import_module("caseslive." + module)
            for name, parameters in functions.items():
                self.assertIn(name, defined_in(module, ast.FunctionDef))
                self.assertEqual(str(inspect.signature(getattr(loaded, name))), parameters, name)


if __name__ == "__main__":
    unittest.main()

"""The interface: names, parameters, and where each thing is defined."""

import ast
import importlib
import inspect
import os
import unittest

ROOT = os.path.dirname(os.path.dirname(os.path.abspath(__file__)))
PILE = {
    "push": ["frame"], "top": [], "pop": [], "kept": [], "enter": ["mark"], "size": [], "births": [],
    "marked": ["mark"], "frame": ["birth"], "held": [],
}
FUNCTIONS = {
    "terms": {
        "is_name": ["value"], "is_expression": ["value"], "is_program": ["value"], "free_names": ["expression"],
        "paths": ["expression"], "part_at": ["expression", "path"], "with_part": ["expression", "path", "part"],
        "renamed": ["expression", "path", "old", "name"], "alike": ["one", "other"],
    },
    "running": {"run": ["program", "most"], "steps": ["program", "most"], "state": ["program", "moment"]},
    "demands": {"is_uses": ["value"], "is_returns": ["value"]},
    "judging": {
        "is_tree": ["value"], "many": ["tree"], "lines": ["tree"], "needs": ["expression", "returns", "tree"],
        "is_bill": ["program", "value"],
    },
    "billing": {"bill": ["program"]},
    "instances": {
        "instances": ["program", "path"], "profile": ["program"], "exchanged": ["program", "path", "part"],
    },
    "ahead": {
        "tallies": ["program"], "returns_due": ["program", "moment"], "uses_due": ["program", "moment"],
        "least_held": ["program"], "copying": ["program"], "told_ahead": ["program", "value"],
    },
    "codes": {"is_code": ["value"]},
}
CLASSES = {"piles": {"Copied": ([], PILE), "Shared": ([], PILE), "Split": ([], PILE), "Led": (["dues"], PILE)}}


def defined(module):
    with open(os.path.join(ROOT, "returnsdue", module + ".py"), encoding="utf-8") as source:
        return {node.name: node for node in ast.parse(source.read()).body if hasattr(node, "name")}


class InterfaceTest(unittest.TestCase):
    def test_functions(self):
        for module, functions in FUNCTIONS.items():
            loaded = importlib.import_module("returnsdue." + module)
            for name, parameters in functions.items():
                with self.subTest(module=module, name=name):
                    self.assertIsInstance(defined(module)[name], ast.FunctionDef)
                    self.assertEqual(list(inspect.signature(getattr(loaded, name)).parameters), parameters)

    def test_classes(self):
        for module, classes in CLASSES.items():
            loaded = importlib.import_module("returnsdue." + module)
            for name, (parameters, methods) in classes.items():
                with self.subTest(module=module, name=name):
                    own = getattr(loaded, name)
                    self.assertIsInstance(defined(module)[name], ast.ClassDef)
                    self.assertEqual(list(inspect.signature(own).parameters), parameters)
                    for method, wanted in methods.items():
                        self.assertIn(method, vars(own))
                        self.assertEqual(list(inspect.signature(vars(own)[method]).parameters), ["self", *wanted])


if __name__ == "__main__":
    unittest.main()

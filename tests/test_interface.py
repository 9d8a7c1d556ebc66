"""The interface: names, parameters, and where each thing is defined."""

import ast
import importlib
import inspect
import os
import unittest

ROOT = os.path.dirname(os.path.dirname(os.path.abspath(__file__)))
PILE = {
    "push": ["frame"], "top": [], "pop": [], "kept": [], "enter": ["mark"], "size": [], "births": [],
    "marked": ["mark"], "frame": ["birth"], "held": [],
}
FUNCTIONS = {
    "terms": {
        "is_name": ["value"], "is_expression": ["value"], "is_program": ["value"], "free_names": ["expression"],
        "paths": ["expression"], "part_at": ["expression", "path"], "with_part": ["expression", "path", "part"],
        "renamed": ["expression", "path", "old", "name"], "alike": ["one", "other"],
    },
    "running": {"run": ["program", "most"], "steps": ["program", "most"], "state": ["program", "moment"]},
    "demands": {"is_uses": ["value"], "is_returns": ["value"]},
    "judging": {
        "is_tree": ["value"], "many": ["tree"], "lines": ["tree"], "needs": ["expression", "returns", "tree"],
        "is_bill": ["program", "value"],
    },
    "billing": {"bill": ["program"]},
    "instances": {
        "instances": ["program", "path"], "profile": ["program"], "exchanged": ["program", "path", "part"],
    },
    "ahead": {
        "tallies": ["program"], "returns_due": ["program", "moment"], "uses_due": ["program", "moment"],
        "least_held": ["program"], "copying": ["program"], "told_ahead": ["program", "value"],
    },
    "codes": {"is_code": ["value"]},
    "loader": {"fits": ["code"], "ways": ["code"], "heights": ["code"], "sets": ["code"]},
    "codemachine": {
        "run_code": ["code", "most"], "code_steps": ["code", "most"], "run_over": ["code", "most", "pile"],
        "returned": ["code", "most"],
    },
    "store": {"store": ["code", "moment"], "reach": ["code", "moment"], "holders": ["code", "moment"]},
    "collector": {"run_kept": ["code", "most", "plan"]},
    "compiler": {"compiled": ["program"]},
    "roads": {
        "returns": ["program"], "entries": ["program"], "returns_to": ["program", "moment", "birth"],
        "entries_of": ["program", "moment", "place"], "roads": ["program", "moment", "birth"],
        "is_road": ["program", "moment", "birth", "value"],
    },
    "texts": {
        "text": ["expression"], "read": ["text", "names"], "offers": ["text", "names"], "completed": ["text", "names"],
        "laid": ["expression", "width"],
    },
    "journals": {
        "is_deed": ["value"], "done": ["session", "deed"], "inverse": ["session", "deed"], "journal": ["program", "deeds"],
        "recovered": ["text"], "folded": ["text"],
    },
    "packing": {"packed": ["value"], "unpacked": ["text"]},
    "followbills": {
        "uses_following": ["uses", "told"], "calls_following": ["returns", "told"], "steps_following": ["program", "bill"],
        "bill_following": ["program", "bill"], "followers": ["program", "bill"], "is_single": ["program", "bill"],
    },
    "following": {
        "spare": ["program"], "following": ["program"], "moments_following": ["program", "most"], "back": ["program"],
    },
    "idle": {
        "due": ["code", "moment", "most"], "idle": ["code", "moment", "most"], "run_without": ["code", "most", "gone"],
        "least_store": ["code", "most"],
    },
    "pictures": {
        "is_picture": ["value"], "picture_at": ["program", "moment"], "onward": ["picture", "many"], "rest": ["picture", "most"],
        "wanted": ["picture"], "without": ["picture", "frames", "things"],
    },
    "images": {"image": ["picture"], "read_image": ["text"]},
    "letting": {"run_letting_go": ["program", "gifts", "most"], "run_with_dues": ["program", "dues", "most"]},
    "sources": {"plain_names": ["program"], "source_of": ["code"]},
    "passing": {
        "passes": ["program"], "passed": ["program", "word", "path"], "gain": ["program", "bill", "word", "path"],
        "bill_passed": ["program", "bill", "word", "path"], "done": ["program", "row"], "last_form": ["program"],
        "are_last": ["program", "value"], "shortened": ["program", "bill"],
    },
    "walking": {"in_time": ["program", "value"], "dues": ["program", "value"]},
}
CODE_MACHINE = {"ahead": [], "step": [], "shown": [], "end": [], "counts": []}
MACHINE = {
    "step": [], "ahead": [], "end": [], "shown": [], "births": [], "held": [], "state": [], "turn": ["word"],
}
SESSION = {
    "sight": [], "where": [], "dues": [], "state": [], "held": [], "lead": ["machine"], "fore": ["many"], "back": ["many"],
    "to": ["moment"], "next_return": ["birth"], "last_return": ["birth"], "next_show": [], "last_show": [],
    "stop": ["path"], "unstop": ["path"], "stops": [], "next_stop": [], "last_stop": [],
}
CLASSES = {
    "piles": {"Copied": ([], PILE), "Shared": ([], PILE), "Split": ([], PILE), "Led": (["dues"], PILE)},
    "codemachine": {"CodeMachine": (["code"], CODE_MACHINE)},
    "machines": {"Machine": (["program", "word"], MACHINE)},
    "debugger": {"Session": (["program", "machine"], SESSION)},
    "desk": {"Desk": (["journal"], {"say": ["line"]})},
}
DEFAULTS = {
    ("texts", "read", "names"): (), ("texts", "offers", "names"): (), ("texts", "completed", "names"): (),
    ("debugger", "Session", "machine"): "plain", ("desk", "Desk", "journal"): "",
}
ATTRIBUTES = {
    ("codemachine", "CodeMachine"): ["moment"], ("machines", "Machine"): ["moment", "word", "copied"],
    ("debugger", "Session"): ["program", "machine", "moment", "length"], ("desk", "Desk"): ["journal", "session"],
}


def defined(module):
    with open(os.path.join(ROOT, "returnsdue", module + ".py"), encoding="utf-8") as source:
        return {node.name: node for node in ast.parse(source.read()).body if hasattr(node, "name")}


class InterfaceTest(unittest.TestCase):
    def test_functions(self):
        for module, functions in FUNCTIONS.items():
            loaded = importlib.import_module("returnsdue." + module)
            for name, parameters in functions.items():
                with self.subTest(module=module, name=name):
                    self.assertIsInstance(defined(module)[name], ast.FunctionDef)
                    self.assertEqual(list(inspect.signature(getattr(loaded, name)).parameters), parameters)

    def test_classes(self):
        for module, classes in CLASSES.items():
            loaded = importlib.import_module("returnsdue." + module)
            for name, (parameters, methods) in classes.items():
                with self.subTest(module=module, name=name):
                    own = getattr(loaded, name)
                    self.assertIsInstance(defined(module)[name], ast.ClassDef)
                    self.assertEqual(list(inspect.signature(own).parameters), parameters)
                    for method, wanted in methods.items():
                        self.assertIn(method, vars(own))
                        self.assertEqual(list(inspect.signature(vars(own)[method]).parameters), ["self", *wanted])


    def test_defaults(self):
        for (module, name, parameter), wanted in DEFAULTS.items():
            own = getattr(importlib.import_module("returnsdue." + module), name)
            self.assertEqual(inspect.signature(own).parameters[parameter].default, wanted)
        own = importlib.import_module("returnsdue.debugger").Session
        for method in (own.fore, own.back):
            self.assertEqual(inspect.signature(method).parameters["many"].default, 1)

    def test_attributes_are_set_when_an_object_is_created(self):
        given = {"CodeMachine": [((0, 0, (("number", 1), ("return",))),)], "Machine": [("number", 1), "split"],
                 "Session": [("number", 1)], "Desk": []}
        for (module, name), wanted in ATTRIBUTES.items():
            made = getattr(importlib.import_module("returnsdue." + module), name)(*given[name])
            for attribute in wanted:
                self.assertIn(attribute, vars(made))


if __name__ == "__main__":
    unittest.main()

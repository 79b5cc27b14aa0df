"""The names of the interface stand in their own files, with their arguments."""

import inspect
import unittest
from importlib import import_module

# For each module its functions, and its classes with their methods, and the arguments of each.
FUNCTIONS = {
    "machine": {"chance": ["machine", "way"], "fit": ["one", "other"], "begun": ["machine", "state"]},
    "tell": {"settle": ["one", "other"], "judge": ["one", "other", "found"]},
    "group": {"alike": ["machine"], "lumps": ["machine"], "lumped": ["machine"]},
    "thin": {
        "thin": ["machine"], "thin_holds": ["machine", "thinning"], "thinned": ["machine", "thinning"],
    },
    "make": {"mixture": ["machines", "lots"], "feeding": ["one", "other"], "beside": ["one", "other"]},
    "best": {"best_test": ["one", "other", "length"], "plan_chance": ["one", "other", "plan"]},
    "box": {"read_box": ["text"], "read_around": ["text"], "box_text": ["box"]},
    "run": {"machine_of": ["box"], "placed": ["box", "machine"], "telling": ["way"]},
    "paper": {
        "paper_lines": ["found"], "read_paper": ["one", "other", "lines"],
        "thin_lines": ["thinning"], "read_thin": ["machine", "lines"],
    },
}
CLASSES = {
    "errors": {"TestError": {}, "BadText": {}, "BadPaper": {}, "BadMachine": {}, "TooLarge": {}, "BadRatio": {}},
    "ratio": {
        "Ratio": {
            "__init__": ["self", "num", "den"], "__add__": ["self", "other"], "__sub__": ["self", "other"],
            "__mul__": ["self", "other"], "__eq__": ["self", "other"], "__str__": ["self"],
            "less": ["self", "other"], "by": ["self", "other"],
        },
    },
    "machine": {
        "Machine": {
            "__init__": ["self", "start", "moves"], "__eq__": ["self", "other"],
            "states": ["self"], "buttons": ["self"], "answers": ["self"],
        },
    },
    "tell": {
        "Found": {
            "__init__": ["self", "kind", "vectors", "start", "moves", "way"], "__eq__": ["self", "other"],
        },
    },
    "thin": {"Thinning": {"__init__": ["self", "kept", "lots"], "__eq__": ["self", "other"]}},
    "box": {
        "Box": {
            "__init__": ["self", "buttons", "answers", "variables", "start", "block"], "__eq__": ["self", "other"],
        },
    },
}


class Interface(unittest.TestCase):
    def own(self, module, name):
        """The thing of this name, if it is defined in the file of the module."""
        full = "notesttells." + module
        found = getattr(import_module(full), name)
        self.assertEqual(found.__module__, full)
        return found

    def test_functions(self):
        for module, functions in FUNCTIONS.items():
            for name, arguments in functions.items():
                with self.subTest(module=module, name=name):
                    found = self.own(module, name)
                    self.assertTrue(inspect.isfunction(found))
                    self.assertEqual(list(inspect.signature(found).parameters), arguments)

    def test_classes(self):
        for module, classes in CLASSES.items():
            for name, methods in classes.items():
                with self.subTest(module=module, name=name):
                    found = self.own(module, name)
                    self.assertTrue(inspect.isclass(found))
                    for method, arguments in methods.items():
                        self.assertIn(method, vars(found))
                        self.assertEqual(list(inspect.signature(vars(found)[method]).parameters), arguments)


if __name__ == "__main__":
    unittest.main()

"""The names of the interface stand in the files under which it lists them."""

import importlib
import inspect
import unittest

FUNCTIONS = {
    "signalgraph.gates": {"wants": ["kind"], "answer": ["kind", "given"]},
    "signalgraph.plans": {"checked": ["plan"], "trimmed": ["plan", "outs"]},
}

CLASSES = {
    "signalgraph.errors": [
        "SignalError", "NoSize", "NoKind", "NoSources", "NoLine", "NoDelay", "NoValues", "Ringed",
        "NoDeed", "NoText",
    ],
}


class Interface(unittest.TestCase):
    def test_functions_are_defined_where_they_are_listed(self):
        for file, functions in FUNCTIONS.items():
            module = importlib.import_module(file)
            for name, arguments in functions.items():
                with self.subTest((file, name)):
                    function = getattr(module, name)
                    self.assertTrue(inspect.isfunction(function))
                    self.assertEqual(function.__module__, file)
                    self.assertEqual(list(inspect.signature(function).parameters), arguments)

    def test_classes_are_defined_where_they_are_listed(self):
        for file, names in CLASSES.items():
            module = importlib.import_module(file)
            for name in names:
                with self.subTest((file, name)):
                    listed = getattr(module, name)
                    self.assertTrue(inspect.isclass(listed))
                    self.assertEqual(listed.__module__, file)

    def test_arguments_are_taken_by_their_names(self):
        gates = importlib.import_module("signalgraph.gates")
        plans = importlib.import_module("signalgraph.plans")
        self.assertEqual(gates.wants(kind="keep"), (1, 1))
        self.assertIs(gates.answer(kind="keep", given=[True]), True)
        self.assertEqual(plans.checked(plan=(2, [])), 2)
        self.assertEqual(plans.trimmed(plan=(1, []), outs=[0]), ((1, []), [0]))


if __name__ == "__main__":
    unittest.main()

"""The names of the interface stand in the files under which it lists them."""

import importlib
import inspect
import unittest

FUNCTIONS = {
    "signalgraph.gates": {"wants": ["kind"], "answer": ["kind", "given"]},
    "signalgraph.plans": {"checked": ["plan"], "trimmed": ["plan", "outs"]},
    "signalgraph.orders": {
        "order": ["plan"], "ring": ["plan"], "late": ["plan"], "quiet": ["plan"], "seers": ["plan", "line"],
    },
    "signalgraph.settling": {"settled": ["plan", "ins"], "stepped": ["plan", "begin", "rows"]},
    "signalgraph.notes": {"written": ["plan"], "read": ["text"]},
}

CLASSES = {
    "signalgraph.errors": [
        "SignalError", "NoSize", "NoKind", "NoSources", "NoLine", "NoDelay", "NoValues", "Ringed",
        "NoDeed", "NoText",
    ],
    "signalgraph.boards": ["Board"],
}

METHODS = {
    "__init__": ["self", "plan", "ins"],
    "put": ["self", "line", "value"],
    "swap": ["self", "line", "gate"],
    "back": ["self"],
    "shown": ["self"],
    "touched": ["self"],
    "drawn": ["self"],
}


class Interface(unittest.TestCase):
    def test_functions_are_defined_where_they_are_listed(self):
        for file, functions in FUNCTIONS.items():
            module = importlib.import_module(file)
            for name, arguments in functions.items():
                with self.subTest((file, name)):
                    function = getattr(module, name)
                    self.assertTrue(inspect.isfunction(function))
                    self.assertEqual(function.__module__, file)
                    self.assertEqual(list(inspect.signature(function).parameters), arguments)

    def test_classes_are_defined_where_they_are_listed(self):
        for file, names in CLASSES.items():
            module = importlib.import_module(file)
            for name in names:
                with self.subTest((file, name)):
                    listed = getattr(module, name)
                    self.assertTrue(inspect.isclass(listed))
                    self.assertEqual(listed.__module__, file)

    def test_arguments_are_taken_by_their_names(self):
        gates = importlib.import_module("signalgraph.gates")
        plans = importlib.import_module("signalgraph.plans")
        self.assertEqual(gates.wants(kind="keep"), (1, 1))
        self.assertIs(gates.answer(kind="keep", given=[True]), True)
        self.assertEqual(plans.checked(plan=(2, [])), 2)
        self.assertEqual(plans.trimmed(plan=(1, []), outs=[0]), ((1, []), [0]))
        orders = importlib.import_module("signalgraph.orders")
        plan = (1, [("not", (0,), 3)])
        self.assertEqual(orders.order(plan=plan), [1])
        self.assertEqual(orders.ring(plan=plan), None)
        self.assertEqual(orders.late(plan=plan), [0, 3])
        self.assertEqual(orders.quiet(plan=plan), 3)
        self.assertEqual(orders.seers(plan=plan, line=0), [1])
        settling = importlib.import_module("signalgraph.settling")
        self.assertEqual(settling.settled(plan=plan, ins=[True]), [True, False])
        told = settling.stepped(plan=plan, begin=[False, False], rows=[[True]])
        self.assertEqual(told, [[True, True]])
        notes = importlib.import_module("signalgraph.notes")
        self.assertEqual(notes.written(plan=plan), "in 1\nnot 0 by 3")
        self.assertEqual(notes.read(text="in 1\nnot 0 by 3"), plan)

    def test_methods_are_defined_in_the_class_itself(self):
        boards = importlib.import_module("signalgraph.boards")
        for name, arguments in METHODS.items():
            with self.subTest(name):
                method = vars(boards.Board)[name]
                self.assertTrue(inspect.isfunction(method))
                self.assertEqual(list(inspect.signature(method).parameters), arguments)

    def test_a_boards_arguments_are_taken_by_their_names(self):
        boards = importlib.import_module("signalgraph.boards")
        board = boards.Board(plan=(1, [("not", (0,), 3)]), ins=[True])
        self.assertEqual(board.put(line=0, value=False), [0, 1])
        self.assertEqual(board.swap(line=1, gate=("no", (), 1)), [1])
        self.assertEqual(board.back(), [1])


if __name__ == "__main__":
    unittest.main()

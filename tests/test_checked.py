"""Points 2, 3 and 5: how many lines a plan has, and which plans are refused."""

import unittest
from copy import deepcopy

from signalgraph.errors import NoDelay, NoKind, NoLine, NoSize, NoSources
from signalgraph.plans import checked
from tests.helper import (
    FAR, TAKES, check_refused, right_gates, two_wrong_gates, with_gate, words_that_are_no_kind,
    wrong_gates, wrong_sizes,
)


class Checked(unittest.TestCase):
    def check_lines(self, plan, lines):
        before = deepcopy(plan)
        self.assertEqual(checked(plan), lines)
        self.assertIs(type(checked(plan)), int)
        self.assertEqual(plan, before)

    def test_inputs_and_gates_are_lines(self):
        gate = ("yes", (), 1)
        for many in (0, 1, 2, 30, 59, 60):
            for gates in (0, 1, 2, 100, 199, 200):
                with self.subTest((many, gates)):
                    self.check_lines((many, [gate] * gates), many + gates)

    def test_each_kind_with_each_number_of_sources(self):
        for kind, numbers in TAKES.items():
            for number in numbers:
                with self.subTest((kind, number)):
                    self.check_lines((1, [(kind, (0,) * number, 1)]), 2)
                    self.check_lines((0, [(kind, (0,) * number, 1)]), 1)

    def test_a_right_plan_of_all_kinds(self):
        self.check_lines((3, right_gates(12)), 12)
        self.check_lines((60, right_gates(69)), 69)

    def test_sources_may_be_any_lines_of_the_plan(self):
        for source in range(12):
            for place in range(9):
                with self.subTest((source, place)):
                    self.check_lines(with_gate(("not", (source,), 1), place), 12)
                    self.check_lines(with_gate(("both", (source,) * 9, 1), place), 12)
                    self.check_lines(with_gate(("most", (11, source, 0), 1), place), 12)

    def test_the_last_line_of_the_greatest_plan(self):
        for source in (0, 59, 60, 258, 259):
            self.check_lines((60, [("keep", (source,), 1)] * 200), 260)
        for source in (-1, 260, 261):
            check_refused(self, NoLine, checked, (60, [("keep", (source,), 1)] * 200))
        check_refused(self, NoLine, checked, (0, [("keep", (1,), 1)]))

    def test_delays_from_1_to_60(self):
        for delay in range(1, 61):
            for gate in (("yes", (), delay), ("unlike", (0, 1, 2), delay)):
                with self.subTest(gate):
                    self.check_lines(with_gate(gate, 4), 12)

    def test_each_delay_beyond_is_refused_for_each_kind(self):
        for kind, numbers in TAKES.items():
            for number in numbers:
                for delay in (0, 61, -1, -5, -60, 62, 600, FAR, -FAR):
                    with self.subTest((kind, number, delay)):
                        gate = (kind, (2,) * number, delay)
                        check_refused(self, NoDelay, checked, with_gate(gate, 4))

    def test_a_word_that_is_no_kind_is_refused(self):
        for word in words_that_are_no_kind():
            for sources in ((), (0,), (0, 1), (0, 1, 2)):
                with self.subTest((word, sources)):
                    check_refused(self, NoKind, checked, (3, [(word, sources, 1)]))

    def test_wrong_sizes(self):
        for plan in wrong_sizes():
            with self.subTest((plan[0], len(plan[1]), plan[1][:1])):
                check_refused(self, NoSize, checked, plan)

    def test_one_wrong_gate_at_the_first_a_middle_and_the_last_place(self):
        for error, plan in wrong_gates():
            with self.subTest(plan):
                check_refused(self, error, checked, plan)

    def test_of_two_wrong_gates_the_first_is_told(self):
        for error, plan in two_wrong_gates():
            with self.subTest(plan):
                check_refused(self, error, checked, plan)

    def test_the_last_of_two_hundred_gates_is_looked_at(self):
        gates = [("keep", (0,), 1)] * 199
        for error, gate in [
            (NoKind, ("nor", (0, 1), 1)), (NoSources, ("keep", (), 1)),
            (NoLine, ("keep", (260,), 1)), (NoDelay, ("keep", (259,), 61)),
        ]:
            check_refused(self, error, checked, (60, gates + [gate]))

    def test_rings_are_no_fault(self):
        self.check_lines((0, [("keep", (0,), 1)]), 1)
        self.check_lines((0, [("not", (1,), 1), ("not", (0,), 1)]), 2)
        self.check_lines((60, [("both", (60 + at, 259 - at), 60) for at in range(200)]), 260)

    def test_a_plan_is_looked_at_anew_each_time(self):
        gates = [("keep", (0,), 1)]
        plan = (1, gates)
        self.check_lines(plan, 2)
        gates.append(("keep", (2,), 1))
        self.check_lines(plan, 3)
        gates.pop(0)
        check_refused(self, NoLine, checked, plan)
        gates[0] = ("keep", (1,), 1)
        self.check_lines(plan, 2)


if __name__ == "__main__":
    unittest.main()

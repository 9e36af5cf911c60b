"""Point 9: the seers of a line."""

import unittest

from signalgraph.errors import NoLine
from signalgraph.orders import ring, seers
from tests.helper import FAR, TAKES, check_apart, check_refused, check_told, right_gates
from tests.plain import (
    mixed_plan, plain_seers, ring_of_gates, ringless_plan, row_of_gates, row_of_nines,
    row_on_later_lines, small_plans,
)


class Seers(unittest.TestCase):
    def check_seers(self, plan, line, told):
        self.assertEqual(plain_seers(plan, line), told)
        check_told(self, told, seers, plan, line)

    def test_none(self):
        self.check_seers((1, []), 0, [])
        self.check_seers((60, []), 59, [])
        self.check_seers((0, [("yes", (), 1)]), 0, [])
        self.check_seers((2, [("keep", (0,), 1)]), 1, [])
        self.check_seers((2, [("keep", (0,), 1)]), 2, [])

    def test_an_inputs(self):
        plan = (2, [("both", (0, 1), 1), ("not", (0,), 1), ("yes", (), 1), ("keep", (2,), 1)])
        self.check_seers(plan, 0, [2, 3, 5])
        self.check_seers(plan, 1, [2, 5])

    def test_a_gates(self):
        gates = [("keep", (0,), 1), ("keep", (1,), 9), ("keep", (2,), 60), ("keep", (1,), 1)]
        plan = (1, gates)
        self.check_seers(plan, 0, [1, 2, 3, 4])
        self.check_seers(plan, 1, [2, 3, 4])
        self.check_seers(plan, 2, [3])
        self.check_seers(plan, 3, [])
        self.check_seers(plan, 4, [])

    def test_earlier_lines_see_later_ones(self):
        plan = (1, [("keep", (2,), 1), ("keep", (3,), 1), ("keep", (4,), 1), ("keep", (0,), 1)])
        self.check_seers(plan, 0, [1, 2, 3, 4])
        self.check_seers(plan, 4, [1, 2, 3])
        self.check_seers(plan, 3, [1, 2])
        self.check_seers(plan, 1, [])

    def test_each_source_of_each_kind_is_seen(self):
        for kind, numbers in TAKES.items():
            for number in numbers:
                plan = (9, [(kind, tuple(range(number)), 1), ("not", (9,), 1)])
                for line in range(9):
                    with self.subTest((kind, number, line)):
                        self.check_seers(plan, line, [9, 10] if line < number else [])

    def test_two_ways_and_the_same_source_several_times(self):
        plan = (1, [
            ("both", (0, 0), 1), ("unlike", (1, 1, 1), 1), ("most", (1, 2, 1), 1), ("either", (3, 2), 1),
        ])
        self.check_seers(plan, 0, [1, 2, 3, 4])
        self.check_seers(plan, 2, [3, 4])

    def test_a_line_on_a_ring_is_its_own_seer(self):
        self.check_seers((0, [("keep", (0,), 1)]), 0, [0])
        self.check_seers((1, [("both", (0, 1), 1)]), 1, [1])
        self.check_seers((1, [("both", (0, 1), 1)]), 0, [1])
        plan = (1, [
            ("either", (0, 3), 1), ("not", (1,), 1), ("keep", (2,), 1), ("keep", (2,), 1), ("yes", (), 1),
        ])
        self.check_seers(plan, 0, [1, 2, 3, 4])
        self.check_seers(plan, 1, [1, 2, 3, 4])
        self.check_seers(plan, 2, [1, 2, 3, 4])
        self.check_seers(plan, 3, [1, 2, 3, 4])
        self.check_seers(plan, 4, [])
        self.check_seers(plan, 5, [])

    def test_a_line_between_two_rings_is_not_its_own_seer(self):
        plan = (0, [
            ("keep", (1,), 1), ("keep", (0,), 1), ("keep", (1,), 1), ("both", (2, 4), 1), ("keep", (3,), 1),
        ])
        self.check_seers(plan, 2, [3, 4])
        self.check_seers(plan, 1, [0, 1, 2, 3, 4])
        self.check_seers(plan, 3, [3, 4])

    def test_a_told_ring_is_of_lines_that_see_themselves(self):
        for seed in range(60):
            plan = mixed_plan(seed, 2, 8)
            themselves = [line for line in range(10) if line in seers(plan, line)]
            told = ring(plan)
            with self.subTest(seed):
                self.assertEqual(told is None, not themselves)
                self.assertTrue(set(told or []).issubset(themselves))

    def test_all_small_plans(self):
        for plan in small_plans():
            for line in range(4):
                check_told(self, plain_seers(plan, line), seers, plan, line)

    def test_mixed_plans(self):
        for seed in range(60):
            for plan in (mixed_plan(seed, seed % 5, 12), ringless_plan(seed, seed % 5, 12)):
                for line in range(plan[0] + 12):
                    with self.subTest((seed, line)):
                        self.check_seers(plan, line, plain_seers(plan, line))

    def test_great_plans(self):
        plan = row_of_gates(60, 200)
        for line in (59, 60, 61, 258, 259):
            self.check_seers(plan, line, list(range(line + 1, 260)))
        self.check_seers(plan, 58, [])
        plan = row_on_later_lines(60, 200)
        for line in (60, 61, 258, 259):
            self.check_seers(plan, line, list(range(60, line)))
        self.check_seers(plan, 0, list(range(60, 260)))
        self.check_seers(row_of_nines(60, 200), 51, list(range(60, 260)))
        self.check_seers(row_of_nines(60, 200), 50, [])
        for line in (0, 99, 199):
            self.check_seers(ring_of_gates(200), line, list(range(200)))
        wide = (60, [("unlike", tuple(range(60, 69)), 1)] * 200)
        self.check_seers(wide, 68, list(range(60, 260)))
        self.check_seers(wide, 69, [])

    def test_a_number_that_is_no_line(self):
        for plan in [(3, right_gates(12)), (0, [("keep", (0,), 1)]), (60, [("yes", (), 1)] * 200)]:
            lines = plan[0] + len(plan[1])
            seers(plan, 0)
            seers(plan, lines - 1)
            for line in (-1, lines, lines + 1, -lines, -lines - 1, 300, FAR, -FAR):
                with self.subTest((lines, line)):
                    check_refused(self, NoLine, seers, plan, line)

    def test_a_plan_without_lines(self):
        for line in (0, -1, 1):
            check_refused(self, NoLine, seers, (0, []), line)

    def test_apart(self):
        check_apart(self, seers, (1, [("keep", (0,), 1), ("keep", (1,), 1)]), 0)
        check_apart(self, seers, (1, []), 0)
        check_apart(self, seers, ring_of_gates(9), 4)


if __name__ == "__main__":
    unittest.main()

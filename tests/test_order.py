"""Point 6: the order of a plan, and the plans that have none."""

import unittest

from signalgraph.errors import Ringed
from signalgraph.orders import order
from tests.helper import check_apart, check_refused, check_told, right_gates
from tests.plain import (
    mixed_plan, plain_order, ring_of_gates, ringless_plan, row_of_gates, row_of_nines,
    row_on_later_lines, small_plans,
)

YES = ("yes", (), 1)


def keeps(*sources):
    """A gate of the kind keep for each of these sources."""
    return [("keep", (source,), 1) for source in sources]


class Order(unittest.TestCase):
    def check_order(self, plan, told):
        self.assertEqual(plain_order(plan), told)
        check_told(self, told, order, plan)

    def test_no_gates(self):
        for many in (0, 1, 2, 60):
            self.check_order((many, []), [])

    def test_gates_without_sources(self):
        self.check_order((0, [YES]), [0])
        self.check_order((2, [YES, ("no", (), 60), YES]), [2, 3, 4])
        self.check_order((60, [YES] * 200), list(range(60, 260)))

    def test_gates_that_hang_on_inputs_alone(self):
        self.check_order((1, keeps(0)), [1])
        self.check_order((3, keeps(2, 1, 0)), [3, 4, 5])

    def test_later_lines_as_sources(self):
        self.check_order((1, keeps(2, 0)), [2, 1])
        self.check_order((1, keeps(2, 3, 0)), [3, 2, 1])
        self.check_order((0, keeps(1, 2, 3) + [YES]), [3, 2, 1, 0])
        self.check_order((1, keeps(3, 0, 2)), [2, 3, 1])

    def test_the_least_of_the_gates_that_are_ready(self):
        self.check_order((1, keeps(4) + [YES] + keeps(1, 0)), [2, 4, 1, 3])
        # The gate 1 is ready only behind 2, and is less than 3, which was ready ahead of it.
        self.check_order((1, keeps(2) + [YES, YES]), [2, 1, 3])
        self.check_order((1, keeps(3, 0, 0, 0)), [2, 3, 1, 4])
        self.check_order((0, keeps(3, 2) + [YES, YES] + keeps(3)), [2, 1, 3, 0, 4])
        self.check_order((0, keeps(5, 5, 4, 4) + [YES, YES]), [4, 2, 3, 5, 0, 1])
        self.check_order((0, keeps(4, 4, 5, 5) + [YES, YES]), [4, 0, 1, 5, 2, 3])

    def test_a_gate_waits_for_all_its_sources(self):
        gates = [("both", (2, 3), 1), ("most", (3, 2, 0), 1)] + keeps(5, 4) + [YES, YES]
        self.check_order((0, gates), [4, 3, 5, 2, 0, 1])
        gates = [("either", (1, 2, 3), 1), YES, YES, YES]
        self.check_order((0, gates), [1, 2, 3, 0])

    def test_the_same_source_several_times(self):
        self.check_order((0, [("both", (1, 1), 1), YES]), [1, 0])
        self.check_order((1, [("unlike", (2, 0, 2, 2, 0), 1), ("both", (0, 0), 1)]), [2, 1])
        self.check_order((0, [("both", (2, 2), 1), ("both", (2, 0), 1), YES]), [2, 0, 1])

    def test_a_number_of_delay_is_nothing_to_the_order(self):
        gates = [("keep", (0,), 60), ("keep", (0,), 1), ("keep", (1,), 1)]
        self.check_order((1, gates), [1, 2, 3])

    def test_a_plan_of_all_kinds(self):
        self.check_order((10, right_gates(10)), list(range(10, 19)))

    def test_all_small_plans(self):
        for plan in small_plans():
            told = plain_order(plan)
            if told is None:
                check_refused(self, Ringed, order, plan)
            else:
                check_told(self, told, order, plan)

    def test_plans_without_a_ring(self):
        for seed in range(60):
            plan = ringless_plan(seed, seed % 7, 1 + seed)
            with self.subTest(seed):
                self.check_order(plan, plain_order(plan))
                self.assertEqual(sorted(order(plan)), [seed % 7 + at for at in range(1 + seed)])

    def test_mixed_plans(self):
        for seed in range(200):
            plan = mixed_plan(seed, seed % 5, 1 + seed % 6)
            told = plain_order(plan)
            with self.subTest(seed):
                if told is None:
                    check_refused(self, Ringed, order, plan)
                else:
                    self.check_order(plan, told)

    def test_a_gate_that_is_its_own_source_is_refused(self):
        check_refused(self, Ringed, order, (0, keeps(0)))
        check_refused(self, Ringed, order, (1, keeps(1)))
        check_refused(self, Ringed, order, (1, [("both", (0, 1), 1)]))
        check_refused(self, Ringed, order, (1, [YES] + keeps(0, 1, 4, 3)))

    def test_rings_are_refused(self):
        check_refused(self, Ringed, order, (0, keeps(1, 0)))
        check_refused(self, Ringed, order, (2, keeps(3, 4, 2)))
        check_refused(self, Ringed, order, (1, [("pick", (0, 2, 0), 1), ("most", (0, 0, 1), 1)]))

    def test_a_gate_with_a_ring_ahead_or_behind_is_refused(self):
        check_refused(self, Ringed, order, (0, keeps(1, 2, 1)))
        check_refused(self, Ringed, order, (1, [("both", (0, 2), 1), ("both", (1, 3), 1), YES]))
        check_refused(self, Ringed, order, (1, keeps(0, 1, 2) + [("either", (3, 4), 1)]))

    def test_a_ring_far_from_the_rest_is_refused(self):
        check_refused(self, Ringed, order, (3, keeps(0, 3, 4, 1, 2) + keeps(9, 8)))
        check_refused(self, Ringed, order, (1, keeps(2, 1) + keeps(0, 3, 4, 5)))
        many, gates = row_of_gates(60, 199)
        check_refused(self, Ringed, order, (many, gates + keeps(259)))

    def test_great_plans(self):
        self.check_order(row_of_gates(60, 200), list(range(60, 260)))
        self.check_order(row_on_later_lines(60, 200), list(range(259, 59, -1)))
        self.check_order(row_of_nines(60, 200), list(range(60, 260)))
        plan = ringless_plan(7, 60, 200)
        self.check_order(plan, plain_order(plan))
        check_refused(self, Ringed, order, ring_of_gates(200))

    def test_apart(self):
        check_apart(self, order, (1, keeps(2, 0)))
        check_apart(self, order, (3, []))
        check_apart(self, order, ringless_plan(3, 4, 30))

    def test_a_plan_that_was_changed_is_ordered_anew(self):
        gates = keeps(2, 0)
        plan = (1, gates)
        self.assertEqual(order(plan), [2, 1])
        gates[0] = YES
        self.assertEqual(order(plan), [1, 2])
        gates[1] = ("keep", (2,), 1)
        check_refused(self, Ringed, order, plan)


if __name__ == "__main__":
    unittest.main()

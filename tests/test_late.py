"""Point 8, and of point 12 the quiet time."""

import unittest

from signalgraph.errors import Ringed
from signalgraph.orders import late, quiet
from tests.helper import TAKES, check_apart, check_refused, check_told
from tests.plain import (
    mixed_plan, plain_late, plain_order, ring_of_gates, ringless_plan, row_of_gates, row_of_nines,
    row_on_later_lines, small_plans,
)


class Late(unittest.TestCase):
    def check_late(self, plan, told):
        self.assertEqual(plain_late(plan), told)
        check_told(self, told, late, plan)
        check_told(self, max([0] + told), quiet, plan)

    def check_ringed(self, plan):
        check_refused(self, Ringed, late, plan)
        check_refused(self, Ringed, quiet, plan)

    def test_no_lines(self):
        check_told(self, [], late, (0, []))
        check_told(self, 0, quiet, (0, []))

    def test_inputs(self):
        for many in (1, 2, 60):
            self.check_late((many, []), [0] * many)

    def test_gates_without_sources(self):
        for delay in (1, 2, 60):
            self.check_late((0, [("yes", (), delay)]), [0])
            self.check_late((2, [("no", (), delay), ("yes", (), 60)]), [0, 0, 0, 0])

    def test_a_gate_that_hangs_on_inputs(self):
        for delay in range(1, 61):
            self.check_late((1, [("keep", (0,), delay)]), [0, delay])
            self.check_late((2, [("both", (1, 0), delay)]), [0, 0, delay])

    def test_a_gate_that_hangs_on_one_without_sources(self):
        self.check_late((0, [("yes", (), 60), ("not", (0,), 7)]), [0, 7])
        self.check_late((0, [("keep", (1,), 7), ("yes", (), 60)]), [7, 0])

    def test_each_kind(self):
        for kind, numbers in TAKES.items():
            for number in numbers:
                if number:
                    gates = [("keep", (0,), 5), (kind, (1,) * number, 9)]
                    self.check_late((1, gates), [0, 5, 14])

    def test_the_greatest_among_the_sources(self):
        gates = [("keep", (0,), 30), ("keep", (0,), 31), ("not", (0,), 29)]
        for sources in [(1, 2, 3), (2, 1, 3), (1, 3, 2), (2, 0, 0), (3, 2, 2), (0, 0, 2)]:
            for kind in ("most", "pick", "both", "either", "unlike"):
                plan = (1, gates + [(kind, sources, 4)])
                with self.subTest((kind, sources)):
                    self.check_late(plan, [0, 30, 31, 29, 35])
        self.check_late((1, gates + [("most", (0, 3, 0), 60)]), [0, 30, 31, 29, 89])

    def test_the_quiet_time_is_not_the_last_lines(self):
        plan = (1, [("keep", (0,), 60), ("keep", (0,), 3)])
        check_told(self, 60, quiet, plan)
        check_told(self, 0, quiet, (1, [("yes", (), 60)]))

    def test_a_chain_with_delays_1_to_60(self):
        gates = [("keep", (at,), 1 + at) for at in range(60)]
        told = [at * (at + 1) // 2 for at in range(61)]
        self.check_late((1, gates), told)
        self.assertEqual(quiet((1, gates)), 1830)
        gates = [("keep", (at + 1,), 1 + at) for at in range(60)] + [("yes", (), 60)]
        told = [sum(range(at + 1, 61)) for at in range(61)]
        self.check_late((0, gates), told)

    def test_great_plans(self):
        gates = [("keep", (59 + at,), 60) for at in range(200)]
        self.check_late((60, gates), [0] * 60 + [60 * (at + 1) for at in range(200)])
        self.assertEqual(quiet((60, gates)), 12000)
        for plan in [
            row_of_gates(60, 200), row_on_later_lines(60, 200), row_of_nines(60, 200),
            ringless_plan(5, 60, 200),
        ]:
            self.check_late(plan, plain_late(plan))

    def test_small_and_mixed_plans(self):
        plans = small_plans() + [mixed_plan(seed, seed % 4, 1 + seed % 5) for seed in range(100)]
        for plan in plans:
            if plain_order(plan) is None:
                self.check_ringed(plan)
            else:
                self.check_late(plan, plain_late(plan))

    def test_plans_without_a_ring(self):
        for seed in range(40):
            plan = ringless_plan(seed, seed % 6, 1 + seed)
            with self.subTest(seed):
                self.check_late(plan, plain_late(plan))

    def test_rings(self):
        self.check_ringed((0, [("keep", (0,), 1)]))
        self.check_ringed((1, [("keep", (2,), 1), ("keep", (1,), 1)]))
        self.check_ringed((1, [("keep", (0,), 1), ("both", (2, 1), 1)]))
        self.check_ringed(ring_of_gates(200))

    def test_apart(self):
        check_apart(self, late, (0, []))
        check_apart(self, late, (2, [("keep", (0,), 1), ("yes", (), 9)]))
        check_apart(self, late, ringless_plan(4, 3, 20))
        check_apart(self, quiet, ringless_plan(4, 3, 20))


if __name__ == "__main__":
    unittest.main()

"""Point 7: rings."""

import unittest
from copy import deepcopy

from signalgraph.orders import ring
from tests.helper import check_apart, check_told, right_gates
from tests.plain import (
    mixed_plan, plain_order, ring_of_gates, ringless_plan, row_of_gates, row_of_nines,
    row_on_later_lines, small_plans,
)

YES = ("yes", (), 1)


def keeps(*sources):
    """A gate of the kind keep for each of these sources."""
    return [("keep", (source,), 1) for source in sources]


class Ring(unittest.TestCase):
    def check_ring(self, plan, *lines):
        """A ring is told, by the words of point 7; of just the lines, where there are some."""
        many, gates = plan
        before = deepcopy(plan)
        told = ring(plan)
        self.assertEqual(plan, before)
        self.assertIs(type(told), list)
        self.assertEqual({type(line) for line in told}, {int})
        self.assertEqual(len(set(told)), len(told))
        for line, behind in zip(told, told[1:] + told[:1]):
            self.assertIn(line, gates[behind - many][1])
            self.assertTrue(many <= line < many + len(gates))
        if lines:
            self.assertEqual(sorted(told), sorted(lines))

    def check_either(self, plan):
        if plain_order(plan) is None:
            self.check_ring(plan)
        else:
            check_told(self, None, ring, plan)

    def test_none(self):
        for plan in [
            (0, []), (60, []), (0, [YES]), (1, keeps(0)), (1, keeps(2, 0)), (1, keeps(2, 3, 0)),
            (0, [("both", (1, 1), 1), YES]), (10, right_gates(10)),
        ]:
            with self.subTest(plan):
                check_told(self, None, ring, plan)

    def test_a_gate_that_is_its_own_source(self):
        self.check_ring((0, keeps(0)), 0)
        self.check_ring((2, keeps(2)), 2)
        self.check_ring((1, [("unlike", (0, 1, 0, 1), 1)]), 1)
        self.check_ring((1, [YES] + keeps(1, 3, 0)), 3)

    def test_a_ring_of_two(self):
        self.check_ring((0, keeps(1, 0)), 0, 1)
        self.check_ring((3, [YES] + keeps(6, 0, 4)), 4, 6)
        self.check_ring((1, [("pick", (0, 2, 0), 1), ("most", (0, 0, 1), 1)]), 1, 2)

    def test_a_ring_of_three_is_told_in_its_order(self):
        for plan, turns in [
            ((0, keeps(1, 2, 0)), [[0, 2, 1], [2, 1, 0], [1, 0, 2]]),
            ((0, keeps(2, 0, 1)), [[0, 1, 2], [1, 2, 0], [2, 0, 1]]),
            ((2, [YES] + keeps(5, 3, 4)), [[3, 4, 5], [4, 5, 3], [5, 3, 4]]),
        ]:
            with self.subTest(plan):
                self.check_ring(plan)
                self.assertIn(ring(plan), turns)

    def test_rings_of_many_lines(self):
        for length in (4, 5, 10, 100, 199, 200):
            with self.subTest(length):
                self.check_ring(ring_of_gates(length), *range(length))
        gates = keeps(*[60 + (at + 77) % 200 for at in range(200)])
        self.check_ring((60, gates), *range(60, 260))

    def test_a_ring_with_gates_that_hang_on_it(self):
        self.check_ring((0, keeps(1, 2, 1)), 1, 2)
        self.check_ring((0, keeps(3, 0, 1, 4, 3)), 3, 4)
        self.check_ring((1, keeps(2, 3, 4, 5, 5)), 5)
        gates = keeps(*[at + 1 for at in range(198)]) + keeps(199, 198)
        self.check_ring((0, gates), 198, 199)

    def test_a_ring_that_hangs_on_gates(self):
        self.check_ring((0, [YES, ("both", (0, 2), 1), ("both", (1, 0), 1)]), 1, 2)
        self.check_ring((1, keeps(0, 1, 2) + [("either", (3, 4), 1)]), 4)

    def test_a_ring_far_from_the_rest(self):
        many, gates = row_of_gates(60, 198)
        self.check_ring((many, gates + keeps(259, 258)), 258, 259)
        self.check_ring((many, gates + keeps(0, 259)), 259)

    def test_of_several_rings_one_is_told(self):
        self.check_ring((0, keeps(0, 1, 2)))
        self.check_ring((0, keeps(1, 0, 3, 2, 4)))
        self.check_ring((0, [("both", (1, 2), 1), ("both", (0, 2), 1), ("both", (0, 1), 1)]))
        self.check_ring((0, [("unlike", tuple(range(9)), 1)] * 9))
        self.check_ring((0, [("both", ((at + 1) % 200, (at + 50) % 200), 1) for at in range(200)]))
        self.check_ring((0, [("both", (at ^ 1, at ^ 2), 1) for at in range(200)]))

    def test_all_small_plans(self):
        for plan in small_plans():
            self.check_either(plan)

    def test_mixed_plans(self):
        for seed in range(300):
            with self.subTest(seed):
                self.check_either(mixed_plan(seed, seed % 5, 1 + seed % 9))
        for seed in range(20):
            with self.subTest(seed):
                self.check_either(mixed_plan(seed, 60, 200))

    def test_great_plans_without_a_ring(self):
        for plan in [
            row_of_gates(60, 200), row_on_later_lines(60, 200), row_of_nines(60, 200),
            ringless_plan(9, 60, 200), (60, [YES] * 200),
        ]:
            check_told(self, None, ring, plan)

    def test_apart(self):
        check_apart(self, ring, (1, keeps(2, 1)))
        check_apart(self, ring, ring_of_gates(30))


if __name__ == "__main__":
    unittest.main()

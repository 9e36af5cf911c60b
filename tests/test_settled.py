"""Point 10: the settled values, and what point 13 says of those of trimmed plans."""

import unittest

from signalgraph.errors import NoValues, Ringed
from signalgraph.plans import trimmed
from signalgraph.settling import settled
from tests.helper import TAKES, check_apart, check_refused, check_told, right_gates
from tests.plain import (
    all_values, mixed_plan, mixed_values, plain_order, plainly_answered, plainly_settled,
    ring_of_gates, ringless_plan, row_of_gates, row_of_nines, row_on_later_lines, small_plans,
)


class Settled(unittest.TestCase):
    def check_settled(self, plan, ins, told):
        self.assertEqual(plainly_settled(plan, ins), told)
        check_told(self, told, settled, plan, ins)

    def test_no_gates(self):
        self.check_settled((0, []), [], [])
        for values in all_values(3):
            self.check_settled((3, []), values, values)
        self.check_settled((60, []), mixed_values(1, 60), mixed_values(1, 60))

    def test_gates_without_sources(self):
        self.check_settled((0, [("yes", (), 1), ("no", (), 60)]), [], [True, False])
        self.check_settled((1, [("no", (), 1), ("yes", (), 60)]), [True], [True, False, True])

    def test_each_kind_of_each_number_of_sources(self):
        for kind, numbers in TAKES.items():
            for number in numbers:
                for ins in all_values(number):
                    told = ins + [plainly_answered(kind, ins)]
                    check_told(self, told, settled, (number, [(kind, tuple(range(number)), 1)]), ins)

    def test_the_order_of_sources(self):
        plan = (3, [("pick", (2, 0, 1), 1), ("pick", (1, 2, 0), 1), ("pick", (0, 0, 2), 1)])
        for a, b, c in all_values(3):
            told = [a, b, c, a if c else b, c if b else a, a if a else c]
            self.check_settled(plan, [a, b, c], told)

    def test_the_same_source_several_times(self):
        plan = (2, [("unlike", (0, 0), 1), ("unlike", (0, 1, 0), 1), ("most", (1, 0, 1), 1)])
        for a, b in all_values(2):
            self.check_settled(plan, [a, b], [a, b, False, b, b])

    def test_gates_upon_gates(self):
        # The sum of three figures of nought and one: its lower and its upper figure.
        plan = (3, [
            ("unlike", (0, 1), 1), ("unlike", (3, 2), 1), ("both", (0, 1), 1), ("both", (3, 2), 1),
            ("either", (5, 6), 1), ("most", (0, 1, 2), 1), ("unlike", (7, 8), 1), ("not", (9,), 1),
        ])
        for a, b, c in all_values(3):
            whole = a + b + c
            low, up = whole % 2 == 1, whole > 1
            told = [a, b, c, a != b, low, a and b, (a != b) and c, up, up, False, True]
            self.check_settled(plan, [a, b, c], told)

    def test_later_lines_as_sources(self):
        plan = (1, [("not", (2,), 60), ("not", (3,), 1), ("not", (0,), 9)])
        self.check_settled(plan, [True], [True, False, True, False])
        self.check_settled(plan, [False], [False, True, False, True])
        plan = (0, [("both", (1, 2), 1), ("not", (2,), 1), ("not", (3,), 1), ("yes", (), 1)])
        self.check_settled(plan, [], [False, True, False, True])

    def test_delays_are_nothing_to_it(self):
        for first in (1, 59, 60):
            for second in (1, 2, 60):
                gates = [("not", (0,), first), ("both", (1, 0), second), ("either", (1, 0), 1)]
                self.check_settled((1, gates), [True], [True, False, False, True])

    def test_a_plan_of_all_kinds(self):
        plan = (10, right_gates(10))
        for seed in range(50):
            ins = mixed_values(seed, 10)
            self.check_settled(plan, ins, plainly_settled(plan, ins))

    def test_small_plans(self):
        for plan in small_plans():
            if plain_order(plan) is None:
                check_refused(self, Ringed, settled, plan, [True])
            else:
                for ins in ([False], [True]):
                    self.check_settled(plan, ins, plainly_settled(plan, ins))

    def test_plans_without_a_ring(self):
        for seed in range(80):
            plan = ringless_plan(seed, seed % 7, 1 + seed)
            ins = mixed_values(seed, seed % 7)
            with self.subTest(seed):
                self.check_settled(plan, ins, plainly_settled(plan, ins))

    def test_great_plans(self):
        plan = row_of_gates(60, 200)
        for last in (True, False):
            ins = mixed_values(3, 59) + [last]
            self.check_settled(plan, ins, ins + [last] * 200)
        for first in (True, False):
            ins = [first] + mixed_values(4, 59)
            told = ins + [first, not first] * 100
            self.check_settled(row_on_later_lines(60, 200), ins, told)
        for plan in (row_of_nines(60, 200), ringless_plan(8, 60, 200)):
            ins = mixed_values(5, 60)
            self.check_settled(plan, ins, plainly_settled(plan, ins))

    def test_of_trimmed_plans(self):
        for seed in range(40):
            plan = ringless_plan(seed, 3, 25)
            ins = mixed_values(seed, 3)
            whole = settled(plan, ins)
            for out in (0, 3, 10, 20, 27):
                part, stay = trimmed(plan, [out, 27 - out])
                with self.subTest((seed, out)):
                    self.check_settled(part, ins, [whole[line] for line in stay])


class Refused(unittest.TestCase):
    def test_values_that_are_not_as_many_as_the_inputs(self):
        for many in (0, 1, 2, 59, 60):
            for gates in ([], [("yes", (), 1)], [("yes", (), 1)] * 5):
                settled((many, gates), [True] * many)
                for number in (0, 1, many - 1, many + 1, many + len(gates), 300):
                    if number >= 0 and number != many:
                        with self.subTest((many, len(gates), number)):
                            check_refused(self, NoValues, settled, (many, gates), [True] * number)

    def test_a_ring(self):
        for plan in [
            (0, [("keep", (0,), 1)]), (1, [("both", (0, 1), 1)]),
            (1, [("keep", (2,), 1), ("keep", (1,), 1)]), (2, [("either", (0, 3), 1), ("both", (1, 2), 1)]),
            (1, [("yes", (), 1), ("keep", (1,), 1), ("keep", (3,), 1)]), ring_of_gates(200),
        ]:
            for ins in all_values(plan[0]):
                with self.subTest((plan, ins)):
                    check_refused(self, Ringed, settled, plan, ins)

    def test_a_ring_is_refused_though_it_would_settle(self):
        plan = (1, [("no", (), 1), ("both", (1, 2), 1)])
        check_refused(self, Ringed, settled, plan, [True])
        plan = (1, [("pick", (0, 0, 1), 1)])
        check_refused(self, Ringed, settled, plan, [True])

    def test_wrong_values_are_refused_ahead_of_a_ring(self):
        for plan in [(0, [("keep", (0,), 1)]), (2, [("keep", (3,), 1), ("keep", (2,), 1)])]:
            many, gates = plan
            check_refused(self, Ringed, settled, plan, [False] * many)
            for number in (0, 1, 3, many + len(gates), 61):
                if number != many:
                    with self.subTest((plan, number)):
                        check_refused(self, NoValues, settled, plan, [False] * number)

    def test_mixed_plans(self):
        for seed in range(100):
            plan = mixed_plan(seed, seed % 4, 1 + seed % 6)
            ins = mixed_values(seed, seed % 4)
            with self.subTest(seed):
                check_refused(self, NoValues, settled, plan, ins + [True])
                if plain_order(plan) is None:
                    check_refused(self, Ringed, settled, plan, ins)
                else:
                    check_told(self, plainly_settled(plan, ins), settled, plan, ins)


class Apart(unittest.TestCase):
    def test_apart(self):
        check_apart(self, settled, (0, []), [])
        check_apart(self, settled, (2, []), [True, False])
        check_apart(self, settled, (1, [("not", (0,), 1), ("keep", (1,), 1)]), [True])
        check_apart(self, settled, ringless_plan(1, 5, 20), mixed_values(1, 5))

    def test_what_is_given_is_not_the_list_that_was_handed_in(self):
        ins = [True, False]
        self.assertIsNot(settled((2, []), ins), ins)

    def test_a_plan_that_was_changed_is_settled_anew(self):
        gates = [("not", (0,), 1)]
        ins = [True]
        plan = (1, gates)
        self.assertEqual(settled(plan, ins), [True, False])
        ins[0] = False
        self.assertEqual(settled(plan, ins), [False, True])
        gates[0] = ("keep", (0,), 1)
        self.assertEqual(settled(plan, ins), [False, False])
        gates[0] = ("keep", (1,), 1)
        check_refused(self, Ringed, settled, plan, ins)


if __name__ == "__main__":
    unittest.main()

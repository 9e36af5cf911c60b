"""Point 11, and of point 12 that the settled values come and stand."""

import unittest

from signalgraph.errors import NoValues
from signalgraph.orders import late, quiet
from signalgraph.settling import settled, stepped
from tests.helper import TAKES, check_apart, check_refused, check_same, check_told, right_gates
from tests.plain import (
    all_values, mixed_plan, mixed_values, plainly_answered, plainly_stepped, ring_of_gates,
    ringless_plan, row_of_gates, row_of_nines,
)


def mixed_rows(seed, many, number):
    """So many rows of values, the same ones for the same seed."""
    values = mixed_values(seed, many * number)
    return [values[at * many:(at + 1) * many] for at in range(number)]


class Stepped(unittest.TestCase):
    def check_stepped(self, plan, begin, rows, told):
        check_same(self, plainly_stepped(plan, begin, rows), told)
        check_told(self, told, stepped, plan, begin, rows)

    def check_line(self, plan, line, begin, rows, told):
        """What one line has, time by time."""
        self.check_stepped(plan, begin, rows, plainly_stepped(plan, begin, rows))
        self.assertEqual([values[line] for values in stepped(plan, begin, rows)], told)

    def test_no_rows(self):
        self.check_stepped((0, []), [], [], [])
        self.check_stepped((2, []), [True, False], [], [])
        self.check_stepped((1, [("keep", (1,), 1)]), [True, False], [], [])

    def test_no_lines(self):
        self.check_stepped((0, []), [], [[]], [[]])
        self.check_stepped((0, []), [], [[], [], []], [[], [], []])

    def test_inputs_have_the_values_of_their_time(self):
        rows = [[True, False], [False, False], [False, True]]
        for begin in all_values(2):
            self.check_stepped((2, []), begin, rows, rows)

    def test_gates_without_sources_answer_from_the_first_time_on(self):
        for begin in all_values(2):
            for delay in (1, 2, 60):
                plan = (0, [("yes", (), delay), ("no", (), delay)])
                self.check_stepped(plan, begin, [[]] * 3, [[True, False]] * 3)

    def test_a_delay_of_one(self):
        plan = (1, [("keep", (0,), 1), ("not", (0,), 1)])
        rows = [[True], [False], [False], [True], [True]]
        for first in (True, False):
            for rest in all_values(2):
                told = [
                    [True, first, not first], [False, True, False], [False, False, True],
                    [True, False, True], [True, True, False],
                ]
                self.check_stepped(plan, [first] + rest, rows, told)

    def test_each_delay(self):
        rows = mixed_rows(1, 1, 130)
        for delay in range(1, 61):
            for first in (True, False):
                told = [[first]] * delay + rows
                told = [now + then for now, then in zip(rows, told)]
                with self.subTest((delay, first)):
                    self.check_stepped((1, [("keep", (0,), delay)]), [first, not first], rows, told)

    def test_delays_longer_than_the_rows(self):
        plan = (1, [("not", (0,), 4), ("keep", (0,), 3), ("both", (0, 1), 60)])
        rows = [[True], [True], [True]]
        told = [[True, True, False, False]] * 3
        self.check_stepped(plan, [False, True, True, True], rows, told)
        told = [[True, False, True, True]] * 3
        self.check_stepped(plan, [True, True, False, False], rows, told)
        told = [[True, True, False, False]] * 3 + [[True, True, True, False]]
        self.check_stepped(plan, [False, True, True, True], rows + [[True]], told)

    def test_the_begin_stands_at_all_times_below_nought(self):
        plan = (0, [("keep", (1,), 3), ("not", (0,), 2)])
        rows = [[]] * 7
        self.check_line(plan, 0, [False, True], rows, [True, True, True, True, True, False, False])
        self.check_line(plan, 1, [False, True], rows, [True, True, False, False, False, False, False])

    def test_what_the_begin_tells_of_a_gate_is_not_shown_but_asked_for(self):
        plan = (1, [("keep", (0,), 1), ("keep", (1,), 1)])
        for begin in all_values(3):
            told = [[True, begin[0], begin[1]], [False, True, begin[0]], [True, False, True]]
            self.check_stepped(plan, begin, [[True], [False], [True]], told)

    def test_a_gates_delay_counts_for_all_its_sources(self):
        plan = (3, [("pick", (0, 1, 2), 2)])
        rows = mixed_rows(2, 3, 40)
        for begin in all_values(4):
            then = [begin[:3]] * 2 + rows
            told = [now + [b if a else c] for now, (a, b, c) in zip(rows, then)]
            self.check_stepped(plan, begin, rows, told)

    def test_each_kind(self):
        for kind, numbers in TAKES.items():
            for number in numbers:
                plan = (number, [(kind, tuple(range(number)), 1)])
                rows = all_values(number)
                begin = [True] * (number + 1)
                then = [begin[:number]] + rows
                told = [now + [plainly_answered(kind, row)] for now, row in zip(rows, then)]
                with self.subTest((kind, number)):
                    check_told(self, told, stepped, plan, begin, rows)

    def test_a_gate_that_is_its_own_source(self):
        rows = [[]] * 8
        yes, no = True, False
        self.check_line((0, [("not", (0,), 1)]), 0, [no], rows, [yes, no] * 4)
        self.check_line((0, [("not", (0,), 1)]), 0, [yes], rows, [no, yes] * 4)
        self.check_line((0, [("not", (0,), 2)]), 0, [no], rows, [yes, yes, no, no] * 2)
        self.check_line((0, [("not", (0,), 60)]), 0, [no], rows, [yes] * 8)
        self.check_line((0, [("keep", (0,), 3)]), 0, [yes], rows, [yes] * 8)

    def test_a_ring_that_keeps_what_was_put_in(self):
        plan = (2, [("pick", (0, 1, 2), 1)])
        rows = [[False, True], [True, True], [False, False], [False, False], [True, False], [False, True]]
        self.check_line(plan, 2, [False, False, False], rows, [False, False, True, True, True, False])
        self.check_line(plan, 2, [False, False, True], rows, [True, True, True, True, True, False])

    def test_a_ring_of_two_with_delays_of_its_own(self):
        plan = (0, [("not", (1,), 2), ("keep", (0,), 1)])
        rows = [[]] * 9
        yes, no = True, False
        self.check_line(plan, 0, [no, no], rows, [yes, yes, yes, no, no, no, yes, yes, yes])
        self.check_line(plan, 1, [no, no], rows, [no, yes, yes, yes, no, no, no, yes, yes])

    def test_mixed_plans(self):
        for seed in range(60):
            many = seed % 4
            plan = mixed_plan(seed, many, 1 + seed % 9)
            begin = mixed_values(seed, many + 1 + seed % 9)
            rows = mixed_rows(seed, many, 90)
            with self.subTest(seed):
                self.check_stepped(plan, begin, rows, plainly_stepped(plan, begin, rows))

    def test_plans_with_short_delays(self):
        for seed in range(60):
            many, gates = mixed_plan(seed, 2, 8)
            gates = [(kind, sources, 1 + delay % 3) for kind, sources, delay in gates]
            begin = mixed_values(seed, 10)
            rows = mixed_rows(seed, 2, 20)
            with self.subTest(seed):
                plan = (many, gates)
                self.check_stepped(plan, begin, rows, plainly_stepped(plan, begin, rows))

    def test_the_same_list_may_be_handed_in_several_times(self):
        row = [True]
        plan = (1, [("not", (0,), 1)])
        self.check_stepped(plan, [False, False], [row, row, row], [[True, True], [True, False], [True, False]])
        self.check_stepped((1, []), row, [row, row], [[True], [True]])


class Great(unittest.TestCase):
    def test_two_hundred_rows_of_the_greatest_plans(self):
        for plan in (row_of_gates(60, 200), row_of_nines(60, 200), mixed_plan(6, 60, 200)):
            begin = mixed_values(6, 260)
            rows = mixed_rows(6, 60, 200)
            check_told(self, plainly_stepped(plan, begin, rows), stepped, plan, begin, rows)

    def test_two_hundred_gates_in_a_ring(self):
        plan = ring_of_gates(200)
        begin = mixed_values(7, 200)
        rows = [[]] * 300
        check_told(self, plainly_stepped(plan, begin, rows), stepped, plan, begin, rows)

    def test_many_rows(self):
        told = [[True, False], [True, True]] * 2500
        check_told(self, told, stepped, (1, [("not", (1,), 1)]), [True, True], [[True]] * 5000)


class Quiet(unittest.TestCase):
    """Point 12."""

    def check_quiet(self, plan, ins, begin):
        many = plan[0]
        end = quiet(plan)
        told = stepped(plan, begin, [list(ins)] * (end + 5))
        values = settled(plan, ins)
        check_same(self, told[end:], [values] * 5)
        for line, time in enumerate(late(plan)):
            self.assertEqual({row[line] for row in told[time:]}, {values[line]})
        check_same(self, [row[:many] for row in told], [ins] * (end + 5))

    def test_whatever_the_begin_was(self):
        plan = (1, [("not", (0,), 3), ("unlike", (0, 1), 2), ("both", (2, 0), 1), ("yes", (), 9)])
        for ins in all_values(1):
            for begin in all_values(5):
                self.check_quiet(plan, ins, begin)

    def test_the_values_may_come_no_earlier(self):
        plan = (1, [("keep", (0,), 7), ("not", (1,), 60)])
        told = stepped(plan, [False] * 3, [[True]] * 70)
        self.assertEqual([row[1] for row in told], [False] * 7 + [True] * 63)
        self.assertEqual([row[2] for row in told], [True] * 67 + [False] * 3)
        self.assertEqual(late(plan), [0, 7, 67])

    def test_plans_without_a_ring(self):
        for seed in range(40):
            plan = ringless_plan(seed, 3, 1 + seed % 12)
            lines = 4 + seed % 12
            for begin in (mixed_values(seed, lines), [True] * lines, [False] * lines):
                with self.subTest((seed, begin)):
                    self.check_quiet(plan, mixed_values(seed + 1, 3), begin)

    def test_plans_without_gates(self):
        self.check_quiet((0, []), [], [])
        self.check_quiet((2, []), [True, False], [False, True])

    def test_a_great_plan(self):
        many, gates = row_of_gates(60, 200)
        plan = (many, [(kind, sources, 1 + delay % 2) for kind, sources, delay in gates])
        self.check_quiet(plan, [True] * 60, [False] * 260)


class Refused(unittest.TestCase):
    def test_a_begin_of_another_length(self):
        for many, gates in [(0, []), (2, []), (0, [("yes", (), 1)]), (3, right_gates(12))]:
            lines = many + len(gates)
            for rows in ([], [[True] * many], [[True] * many] * 3):
                stepped((many, gates), [True] * lines, rows)
                for number in (0, many, lines - 1, lines + 1, 300):
                    if number >= 0 and number != lines:
                        with self.subTest((many, number)):
                            check_refused(self, NoValues, stepped, (many, gates), [True] * number, rows)

    def test_a_row_of_another_length(self):
        for many, gates in [(0, []), (2, []), (0, [("yes", (), 1)]), (3, right_gates(12)), (60, [])]:
            lines = many + len(gates)
            begin = [False] * lines
            right = [True] * many
            for number in (0, 1, many - 1, many + 1, lines, 300):
                if number >= 0 and number != many:
                    row = [True] * number
                    for rows in ([row], [row, right], [right, row], [right, row, right], [row] * 3):
                        with self.subTest((many, number, len(rows))):
                            check_refused(self, NoValues, stepped, (many, gates), begin, rows)

    def test_the_last_of_many_rows_is_looked_at(self):
        rows = [[True]] * 199
        plan = (1, [("keep", (0,), 1)])
        check_refused(self, NoValues, stepped, plan, [True, True], rows + [[]])
        check_refused(self, NoValues, stepped, plan, [True, True], rows + [[True, True]])

    def test_both_of_another_length(self):
        check_refused(self, NoValues, stepped, (1, []), [], [[]])
        check_refused(self, NoValues, stepped, (1, []), [True, True], [[True, True]])

    def test_of_a_plan_with_a_ring(self):
        check_refused(self, NoValues, stepped, (1, [("keep", (1,), 1)]), [True], [[True]])
        check_refused(self, NoValues, stepped, (1, [("keep", (1,), 1)]), [True, True], [[]])


class Apart(unittest.TestCase):
    def test_apart(self):
        check_apart(self, stepped, (0, []), [], [[], []])
        check_apart(self, stepped, (2, []), [True, False], [[True, False], [False, True]])
        check_apart(self, stepped, (1, [("keep", (1,), 2)]), [True, False], [[True], [False]])
        plan = mixed_plan(3, 3, 9)
        check_apart(self, stepped, plan, mixed_values(3, 12), mixed_rows(3, 3, 70))

    def test_rows_that_are_given_are_apart_from_each_other(self):
        row = [True]
        for gates in ([], [("keep", (0,), 60)]):
            told = stepped((1, gates), [True] * (1 + len(gates)), [row, row])
            told[0][0] = False
            self.assertEqual(told[1][0], True)
            self.assertEqual(row, [True])


if __name__ == "__main__":
    unittest.main()

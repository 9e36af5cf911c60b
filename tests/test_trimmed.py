"""Point 13, and of points 1 and 5 what they say of trimmed plans."""

import unittest
from copy import deepcopy
from itertools import product

from signalgraph.errors import NoDelay, NoKind, NoLine, NoSize, NoSources
from signalgraph.plans import checked, trimmed
from tests.helper import FAR, TAKES, check_refused, right_gates, wrong_plans
from tests.plain import mixed_plan, row_of_gates


def plainly_trimmed(plan, outs):
    """Point 13 word by word: look through all gates again until nothing more stays."""
    many, gates = plan
    stays = set(range(many)) | set(outs)
    before = None
    while before != stays:
        before = set(stays)
        for at, gate in enumerate(gates):
            if many + at in before:
                stays |= set(gate[1])
    stay = sorted(stays)
    left = []
    for at, (kind, sources, delay) in enumerate(gates):
        if many + at in stays:
            left.append((kind, tuple(stay.index(source) for source in sources), delay))
    return ((many, left), stay)


class TrimmedTest(unittest.TestCase):
    """A test that compares trimmed plans, and looks at their form."""

    def check_form(self, answer):
        self.assertIs(type(answer), tuple)
        plan, stay = answer
        self.assertIs(type(plan), tuple)
        many, gates = plan
        self.assertEqual([type(many), type(gates), type(stay)], [int, list, list])
        for gate in gates:
            self.assertIs(type(gate), tuple)
            self.assertEqual([type(part) for part in gate], [str, tuple, int])
            self.assertEqual({type(source) for source in gate[1]} | {int}, {int})
        self.assertEqual({type(line) for line in stay} | {int}, {int})

    def check_trimmed(self, plan, outs, told):
        before = deepcopy((plan, outs))
        answer = trimmed(plan, outs)
        self.assertEqual(answer, told)
        self.check_form(answer)
        self.assertEqual((plan, outs), before)
        self.assertEqual(checked(answer[0]), len(answer[1]))


class Stays(TrimmedTest):
    def test_no_outs(self):
        self.check_trimmed((0, []), [], ((0, []), []))
        self.check_trimmed((2, []), [], ((2, []), [0, 1]))
        self.check_trimmed((2, [("keep", (0,), 1), ("yes", (), 1)]), [], ((2, []), [0, 1]))
        self.check_trimmed((0, [("yes", (), 1), ("keep", (1,), 1)]), [], ((0, []), []))
        self.check_trimmed(row_of_gates(60, 200), [], ((60, []), list(range(60))))

    def test_outs_that_are_inputs(self):
        plan = (3, [("keep", (0,), 1), ("both", (1, 3), 2)])
        for outs in ([0], [1], [2], [2, 0], [0, 1, 2], [1, 1, 1]):
            with self.subTest(outs):
                self.check_trimmed(plan, outs, ((3, []), [0, 1, 2]))

    def test_outs_that_are_gates(self):
        gates = [("not", (0,), 5), ("yes", (), 60), ("pick", (3, 1, 2), 9), ("no", (), 1)]
        plan = (2, gates)
        self.check_trimmed(plan, [2], ((2, [("not", (0,), 5)]), [0, 1, 2]))
        self.check_trimmed(plan, [3], ((2, [("yes", (), 60)]), [0, 1, 3]))
        self.check_trimmed(plan, [4], ((2, gates[:3]), [0, 1, 2, 3, 4]))
        self.check_trimmed(plan, [5], ((2, [("no", (), 1)]), [0, 1, 5]))
        self.check_trimmed(plan, [5, 1, 3], ((2, [gates[1], gates[3]]), [0, 1, 3, 5]))

    def test_outs_named_twice_and_out_of_order(self):
        plan = (1, [("keep", (0,), 1), ("not", (0,), 2), ("yes", (), 3), ("not", (1,), 4)])
        told = ((1, [("keep", (0,), 1), ("yes", (), 3), ("not", (1,), 4)]), [0, 1, 3, 4])
        for outs in ([3, 4], [4, 3], [4, 4, 3, 3, 4], [4, 0, 3], [3, 1, 4, 1, 0], [0, 4, 0, 3, 0]):
            with self.subTest(outs):
                self.check_trimmed(plan, outs, told)

    def test_lines_are_numbered_anew_in_their_order(self):
        plan = (2, [
            ("no", (), 1), ("keep", (7,), 2), ("yes", (), 3), ("both", (5, 3), 4), ("not", (5,), 5),
            ("keep", (4,), 6),
        ])
        left = [("keep", (5,), 2), ("yes", (), 3), ("both", (4, 2), 4), ("keep", (3,), 6)]
        self.check_trimmed(plan, [5], ((2, left), [0, 1, 3, 4, 5, 7]))

    def test_kinds_delays_and_the_order_of_sources_stay(self):
        plan = (2, [
            ("no", (), 1), ("yes", (), 2), ("pick", (5, 0, 3), 8),
            ("unlike", (4, 1, 3, 0, 4, 1, 3, 0, 4), 60), ("most", (3, 1, 5), 1),
        ])
        left = [("yes", (), 2), ("pick", (4, 0, 2), 8), ("unlike", (3, 1, 2, 0, 3, 1, 2, 0, 3), 60)]
        self.check_trimmed(plan, [5], ((2, left), [0, 1, 3, 4, 5]))

    def test_each_source_of_each_kind_stays(self):
        below = [("yes" if at % 2 else "no", (), 1 + at) for at in range(9)]
        for kind, numbers in TAKES.items():
            for number in numbers:
                sources = tuple(range(number, 0, -1))
                last = (kind, sources, 60)
                left = below[:number] + [last]
                with self.subTest(last):
                    self.check_trimmed(
                        (1, below + [last]), [10], ((1, left), list(range(number + 1)) + [10]),
                    )

    def test_the_same_source_several_times(self):
        plan = (0, [("yes", (), 1), ("no", (), 2), ("both", (1, 1, 1), 3), ("most", (2, 2, 1), 4)])
        left = [("no", (), 2), ("both", (0, 0, 0), 3), ("most", (1, 1, 0), 4)]
        self.check_trimmed(plan, [3], ((0, left), [1, 2, 3]))

    def test_lines_stay_through_a_ring(self):
        plan = (1, [
            ("yes", (), 2), ("not", (4,), 3), ("no", (), 6), ("keep", (5,), 4), ("both", (2, 0), 5),
            ("keep", (2,), 1),
        ])
        ring = [("not", (2,), 3), ("keep", (3,), 4), ("both", (1, 0), 5)]
        for outs in ([2], [4], [5], [5, 4], [2, 4, 5, 0]):
            with self.subTest(outs):
                self.check_trimmed(plan, outs, ((1, ring), [0, 2, 4, 5]))
        behind = ring + [("keep", (1,), 1)]
        self.check_trimmed(plan, [6], ((1, behind), [0, 2, 4, 5, 6]))
        self.check_trimmed(plan, [3], ((1, [("no", (), 6)]), [0, 3]))

    def test_lines_stay_through_a_gates_own_line(self):
        plan = (0, [("keep", (0,), 7), ("yes", (), 1), ("not", (2,), 8), ("either", (3, 0), 9)])
        self.check_trimmed(plan, [0], ((0, [("keep", (0,), 7)]), [0]))
        self.check_trimmed(plan, [2], ((0, [("not", (0,), 8)]), [2]))
        both = [("keep", (0,), 7), ("not", (1,), 8)]
        self.check_trimmed(plan, [2, 0], ((0, both), [0, 2]))
        behind = [("keep", (0,), 7), ("either", (1, 0), 9)]
        self.check_trimmed(plan, [3], ((0, behind), [0, 3]))

    def test_all_lines_may_stay(self):
        plan = (3, right_gates(12))
        self.check_trimmed(plan, list(range(12)), (plan, list(range(12))))
        self.check_trimmed(plan, list(range(11, -1, -1)), (plan, list(range(12))))

    def test_all_small_plans(self):
        sources = [(0,), (1,), (2,), (3,), (0, 1), (1, 3), (3, 2), (2, 2)]
        gates = [("yes", (), 1)]
        gates += [("keep" if len(row) == 1 else "both", row, 9) for row in sources]
        for row in product(gates, repeat=3):
            plan = (1, list(row))
            for outs in ([], [0], [1], [2], [3], [3, 1]):
                self.assertEqual(trimmed(plan, outs), plainly_trimmed(plan, outs), (plan, outs))

    def test_mixed_plans(self):
        for seed, (many, length) in enumerate([(0, 1), (0, 12), (1, 7), (5, 40), (60, 200), (0, 200)]):
            plan = mixed_plan(seed + 1, many, length)
            for out in range(0, many + length, 1 + (many + length) // 40):
                outs = [out, (out * 7) % (many + length)]
                with self.subTest((seed, outs)):
                    self.check_trimmed(plan, outs, plainly_trimmed(plan, outs))


class Great(TrimmedTest):
    def test_two_hundred_gates_in_a_row(self):
        plan = row_of_gates(60, 200)
        for out in (60, 61, 119, 120, 178, 258, 259):
            with self.subTest(out):
                told = ((60, plan[1][:out - 59]), list(range(out + 1)))
                self.check_trimmed(plan, [out], told)

    def test_two_hundred_gates_in_a_row_on_later_lines(self):
        gates = [("keep", (61 + at,), 1) for at in range(199)] + [("keep", (0,), 1)]
        self.check_trimmed((60, gates), [60], ((60, gates), list(range(260))))
        told = ((60, [("keep", (61,), 1), ("keep", (0,), 1)]), list(range(60)) + [258, 259])
        self.check_trimmed((60, gates), [258], told)

    def test_two_hundred_gates_in_a_ring(self):
        gates = [("not", ((at + 1) % 200,), 60) for at in range(200)]
        self.check_trimmed((0, gates), [77], ((0, gates), list(range(200))))

    def test_many_outs(self):
        plan = row_of_gates(60, 200)
        gates = plan[1]
        told = ((60, gates[:119]), list(range(179)))
        self.check_trimmed(plan, list(range(60, 179)), told)
        self.check_trimmed(plan, list(range(178, 59, -1)), told)
        self.check_trimmed(plan, list(range(179)), told)
        self.check_trimmed(plan, list(range(260)), (plan, list(range(260))))
        self.check_trimmed(plan, list(range(260)) * 4, (plan, list(range(260))))
        self.check_trimmed(plan, [60] * 1000, ((60, gates[:1]), list(range(61))))

    def test_many_outs_that_hang_on_nothing(self):
        gates = [("yes" if at % 2 else "no", (), 1 + at % 60) for at in range(200)]
        outs = list(range(259, 59, -2))
        told = ((60, gates[1::2]), list(range(60)) + list(range(61, 260, 2)))
        self.check_trimmed((60, gates), outs, told)

    def test_gates_that_hang_on_all_nine_ahead_of_them(self):
        gates = [("unlike", tuple(max(at - by, 0) for by in range(1, 10)), 1) for at in range(200)]
        self.check_trimmed((0, gates), [199], ((0, gates), list(range(200))))


class Refused(TrimmedTest):
    def test_an_out_that_is_no_line(self):
        plan = (3, right_gates(12))
        for out in (-1, 12, 13, -12, -13, 60, 260, FAR, -FAR):
            for outs in ([out], [0, out], [11, 3, out], [out, 0], [5, out, 5], [5] * 300 + [out],
                         [out, out]):
                with self.subTest((out, len(outs))):
                    check_refused(self, NoLine, trimmed, plan, outs)

    def test_the_last_line_is_one(self):
        for many, length in [(0, 1), (1, 0), (1, 1), (60, 0), (60, 200)]:
            plan = (many, [("yes", (), 1)] * length)
            lines = many + length
            trimmed(plan, [lines - 1])
            check_refused(self, NoLine, trimmed, plan, [lines])
            check_refused(self, NoLine, trimmed, plan, [-1])

    def test_a_plan_without_lines_has_no_outs(self):
        for out in (0, -1, 1):
            check_refused(self, NoLine, trimmed, (0, []), [out])

    def test_a_wrong_plan_is_refused_ahead_of_a_wrong_out(self):
        for error, plan in wrong_plans():
            for outs in ([], [0], [-1], [3, FAR]):
                with self.subTest((error, outs)):
                    check_refused(self, error, trimmed, plan, outs)

    def test_a_gate_that_would_go_may_be_wrong_too(self):
        gates = [("yes", (), 1), ("keep", (0,), 1)]
        for error, gate in [
            (NoKind, ("nor", (), 1)), (NoSources, ("keep", (), 1)), (NoLine, ("keep", (4,), 1)),
            (NoDelay, ("yes", (), 0)),
        ]:
            check_refused(self, error, trimmed, (1, gates + [gate]), [1])
            check_refused(self, error, trimmed, (1, [gate] + gates), [])
        check_refused(self, NoSize, trimmed, (61, gates), [1])


class Apart(TrimmedTest):
    """What is handed in and what is handed out have nothing to do with each other."""

    def test_what_is_handed_in_is_not_kept(self):
        gates = [("keep", (0,), 1), ("not", (1,), 2), ("yes", (), 3)]
        outs = [3, 2]
        told = ((1, [("keep", (0,), 1), ("not", (1,), 2), ("yes", (), 3)]), [0, 1, 2, 3])
        answer = trimmed((1, gates), outs)
        gates[0] = ("no", (), 60)
        gates.append(("no", (), 1))
        outs.clear()
        self.assertEqual(answer, told)
        gates.clear()
        self.assertEqual(answer, told)

    def test_what_is_handed_out_is_the_askers_own(self):
        for outs in ([0, 1, 2, 3], [2], []):
            with self.subTest(outs):
                gates = [("keep", (0,), 1), ("not", (1,), 2), ("yes", (), 3)]
                plan = (1, gates)
                before = deepcopy((plan, outs))
                first = trimmed(plan, outs)
                told = deepcopy(first)
                second = trimmed(plan, outs)
                first[0][1].append(("no", (), 1))
                first[1].append(99)
                self.assertEqual((plan, outs), before)
                self.assertEqual(second, told)
                self.assertEqual(trimmed(plan, outs), told)
                second[0][1].clear()
                second[1].clear()
                self.assertEqual((plan, outs), before)
                self.assertEqual(trimmed(plan, outs), told)

    def test_no_list_that_is_handed_out_is_one_that_was_handed_in(self):
        gates = [("yes", (), 1), ("no", (), 1)]
        outs = [0, 1]
        plan, stay = trimmed((0, gates), outs)
        self.assertIsNot(plan[1], gates)
        self.assertIsNot(stay, outs)

    def test_a_plan_that_was_changed_is_trimmed_anew(self):
        gates = [("keep", (1,), 1), ("yes", (), 1)]
        plan = (0, gates)
        self.assertEqual(trimmed(plan, [0]), ((0, gates), [0, 1]))
        gates[0] = ("no", (), 9)
        self.assertEqual(trimmed(plan, [0]), ((0, [("no", (), 9)]), [0]))


if __name__ == "__main__":
    unittest.main()

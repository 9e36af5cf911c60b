"""Points 14 and 15: boards, by examples that are worked out by hand."""

import unittest
from copy import deepcopy

from signalgraph.boards import Board
from signalgraph.errors import NoDeed, NoDelay, NoKind, NoLine, NoSources, NoValues, Ringed
from tests.helper import (
    FAR, TAKES, TWICE_WRONG_GATES, WRONG_GATES, check_refused, check_told, right_gates, wrong_plans,
)
from tests.plain import all_values, plainly_settled, ring_of_gates


def state(board):
    """All that a board tells."""
    return (board.shown(), board.touched(), board.drawn())


class BoardTest(unittest.TestCase):
    def check_state(self, board, shown, touched, plan):
        check_told(self, shown, board.shown)
        check_told(self, touched, board.touched)
        check_told(self, plan, board.drawn)

    def check_deed(self, board, told, touched, deed, *args):
        """A deed gives the lines told, which are others behind it, and touches the gates told."""
        shown = board.shown()
        check_told(self, told, deed, *args)
        self.assertEqual([line for line, value in enumerate(board.shown()) if value != shown[line]], told)
        check_told(self, touched, board.touched)
        many, gates = board.drawn()
        self.assertEqual(board.shown(), plainly_settled((many, gates), board.shown()[:many]))

    def check_no_deed(self, board, error, deed, *args):
        """A deed that is refused changes nothing."""
        before = state(board)
        check_refused(self, error, deed, *args)
        self.assertEqual(state(board), before)


def small_plan():
    """Two inputs and five gates: 4 sees both inputs, 3 and 5 see 2, 6 sees none."""
    return (2, [
        ("not", (0,), 1), ("keep", (2,), 2), ("both", (2, 1), 3), ("either", (4, 2), 60), ("yes", (), 4),
    ])


class Made(BoardTest):
    def test_a_board_is_settled_and_nothing_is_touched(self):
        for ins in all_values(2):
            a, b = ins
            board = Board(small_plan(), ins)
            shown = [a, b, not a, not a, not a and b, not a, True]
            self.check_state(board, shown, [], small_plan())

    def test_without_gates_and_without_lines(self):
        self.check_state(Board((0, []), []), [], [], (0, []))
        self.check_state(Board((2, []), [True, False]), [True, False], [], (2, []))

    def test_of_later_lines(self):
        plan = (1, [("not", (2,), 1), ("not", (0,), 1)])
        self.check_state(Board(plan, [True]), [True, True, False], [], plan)

    def test_of_all_kinds(self):
        plan = (10, right_gates(10))
        for ins in ([True] * 10, [False] * 10, [True, False] * 5):
            self.check_state(Board(plan, ins), plainly_settled(plan, ins), [], plan)

    def test_refused_as_settled(self):
        for error, plan in wrong_plans():
            for ins in ([], [True] * 3):
                with self.subTest((error, ins)):
                    check_refused(self, error, Board, plan, ins)
        for number in (0, 1, 3, 7, 61):
            check_refused(self, NoValues, Board, small_plan(), [True] * number)
        check_refused(self, Ringed, Board, (1, [("keep", (1,), 1)]), [True])
        check_refused(self, Ringed, Board, ring_of_gates(200), [])
        check_refused(self, NoValues, Board, (1, [("keep", (1,), 1)]), [])
        check_refused(self, NoValues, Board, (1, [("keep", (1,), 1)]), [True, False])


class Put(BoardTest):
    def test_another_value(self):
        board = Board(small_plan(), [True, False])
        self.check_deed(board, [0, 2, 3, 5], [2, 3, 4, 5], board.put, 0, False)
        self.check_state(board, [False, False, True, True, False, True, True], [2, 3, 4, 5], small_plan())
        self.check_deed(board, [1, 4], [4, 5], board.put, 1, True)
        self.check_state(board, [False, True, True, True, True, True, True], [4, 5], small_plan())
        self.check_deed(board, [0, 2, 3, 4, 5], [2, 3, 4, 5], board.put, 0, True)
        self.check_state(board, [True, True, False, False, False, False, True], [2, 3, 4, 5], small_plan())

    def test_the_same_value_touches_nothing(self):
        for ins in all_values(2):
            board = Board(small_plan(), ins)
            for line in (0, 1):
                self.check_deed(board, [], [], board.put, line, ins[line])
            self.assertEqual(board.shown()[:2], ins)

    def test_the_same_value_behind_another_deed_touches_nothing(self):
        board = Board(small_plan(), [True, False])
        self.check_deed(board, [1], [4, 5], board.put, 1, True)
        self.check_deed(board, [], [], board.put, 1, True)
        self.check_deed(board, [], [], board.put, 0, True)
        self.check_deed(board, [1], [4, 5], board.put, 1, False)

    def test_an_input_that_nothing_sees(self):
        board = Board((2, [("not", (0,), 1)]), [True, False])
        self.check_deed(board, [1], [], board.put, 1, True)
        self.check_state(board, [True, True, False], [], (2, [("not", (0,), 1)]))

    def test_gates_that_are_touched_may_stay_the_same(self):
        plan = (2, [("both", (0, 1), 1), ("not", (2,), 1), ("unlike", (0, 0), 1)])
        board = Board(plan, [True, False])
        self.check_deed(board, [0], [2, 3, 4], board.put, 0, False)
        self.check_deed(board, [1], [2, 3], board.put, 1, True)
        self.check_deed(board, [0, 2, 3], [2, 3, 4], board.put, 0, True)

    def test_earlier_gates_that_see_later_ones(self):
        plan = (1, [("not", (2,), 1), ("not", (3,), 1), ("not", (0,), 1), ("no", (), 1)])
        board = Board(plan, [True])
        self.check_deed(board, [0, 1, 2, 3], [1, 2, 3], board.put, 0, False)
        self.check_state(board, [False, True, False, True, False], [1, 2, 3], plan)

    def test_a_number_that_is_no_input(self):
        board = Board(small_plan(), [True, False])
        for line in (-1, 2, 3, 6, 7, 8, -2, -7, 60, FAR, -FAR):
            for value in (True, False):
                with self.subTest((line, value)):
                    self.check_no_deed(board, NoLine, board.put, line, value)
        board.put(1, True)
        for line in (-1, 2, FAR):
            self.check_no_deed(board, NoLine, board.put, line, True)

    def test_without_inputs(self):
        for gates in ([], [("yes", (), 1)]):
            board = Board((0, gates), [])
            for line in (-1, 0, 1):
                self.check_no_deed(board, NoLine, board.put, line, True)


class Swap(BoardTest):
    def test_for_another_kind(self):
        board = Board(small_plan(), [True, False])
        self.check_deed(board, [2, 3, 5], [2, 3, 4, 5], board.swap, 2, ("keep", (0,), 1))
        many, gates = small_plan()
        gates[0] = ("keep", (0,), 1)
        self.check_state(board, [True, False, True, True, False, True, True], [2, 3, 4, 5], (many, gates))
        self.check_deed(board, [4], [4, 5], board.swap, 4, ("either", (2, 1), 3))
        gates[2] = ("either", (2, 1), 3)
        self.check_state(board, [True, False, True, True, True, True, True], [4, 5], (many, gates))
        self.check_deed(board, [6], [6], board.swap, 6, ("no", (), 4))

    def test_for_other_sources(self):
        board = Board(small_plan(), [True, False])
        self.check_deed(board, [3], [3], board.swap, 3, ("keep", (0,), 2))
        self.check_deed(board, [], [3], board.swap, 3, ("keep", (6,), 2))
        self.check_deed(board, [4, 5], [4, 5], board.swap, 4, ("both", (6, 3), 3))
        many, gates = small_plan()
        gates[1] = ("keep", (6,), 2)
        gates[2] = ("both", (6, 3), 3)
        self.check_state(board, [True, False, False, True, True, True, True], [4, 5], (many, gates))

    def test_what_sees_a_line_is_told_by_the_plan_now(self):
        board = Board(small_plan(), [True, False])
        board.swap(4, ("both", (6, 3), 3))
        self.check_deed(board, [1], [], board.put, 1, True)
        self.check_deed(board, [0, 2, 3, 4, 5], [2, 3, 4, 5], board.put, 0, False)
        board.swap(3, ("keep", (1,), 2))
        self.check_deed(board, [1, 3, 4], [3, 4, 5], board.put, 1, False)

    def test_for_another_delay(self):
        board = Board(small_plan(), [True, False])
        for delay in (2, 60, 1, 1):
            self.check_deed(board, [], [2, 3, 4, 5], board.swap, 2, ("not", (0,), delay))
            many, gates = small_plan()
            gates[0] = ("not", (0,), delay)
            self.assertEqual(board.drawn(), (many, gates))

    def test_for_the_same_gate(self):
        board = Board(small_plan(), [True, False])
        for line, touched in [(2, [2, 3, 4, 5]), (3, [3]), (4, [4, 5]), (5, [5]), (6, [6])]:
            gate = small_plan()[1][line - 2]
            self.check_deed(board, [], touched, board.swap, line, gate)
            self.assertEqual(board.drawn(), small_plan())

    def test_each_kind(self):
        for kind, numbers in TAKES.items():
            for number in numbers:
                board = Board((1, [("no", (), 1), ("not", (1,), 1), ("keep", (2,), 1)]), [True])
                gate = (kind, (0,) * number, 60)
                told = plainly_settled((1, [gate, ("not", (1,), 1), ("keep", (2,), 1)]), [True])
                with self.subTest(gate):
                    self.check_deed(board, [1, 2, 3] if told[1] else [], [1, 2, 3], board.swap, 1, gate)
                    self.assertEqual(board.shown(), told)

    def test_for_a_gate_on_later_lines(self):
        board = Board((1, [("yes", (), 1), ("yes", (), 1), ("not", (0,), 1)]), [True])
        self.check_deed(board, [1], [1], board.swap, 1, ("keep", (3,), 1))
        self.check_deed(board, [2], [2], board.swap, 2, ("keep", (1,), 1))
        self.check_deed(board, [1, 2, 3], [1, 2, 3], board.swap, 3, ("yes", (), 1))

    def test_the_order_may_turn_round(self):
        board = Board((1, [("keep", (0,), 1), ("not", (1,), 1)]), [True])
        self.check_deed(board, [1, 2], [1, 2], board.swap, 1, ("no", (), 1))
        self.check_deed(board, [], [2], board.swap, 2, ("keep", (0,), 1))
        self.check_deed(board, [], [1], board.swap, 1, ("not", (2,), 1))
        self.check_deed(board, [0, 1, 2], [1, 2], board.put, 0, False)
        self.assertEqual(board.drawn(), (1, [("not", (2,), 1), ("keep", (0,), 1)]))

    def test_a_number_that_is_no_gates(self):
        board = Board(small_plan(), [True, False])
        for gate in (("yes", (), 1), ("nor", (-1,), 0), ("keep", (6,), 1), ("keep", (), 1)):
            for line in (-1, 0, 1, 7, 8, -5, 60, 260, FAR, -FAR):
                with self.subTest((line, gate)):
                    self.check_no_deed(board, NoLine, board.swap, line, gate)
        for board in (Board((0, []), []), Board((1, []), [True])):
            for line in (-1, 0, 1):
                self.check_no_deed(board, NoLine, board.swap, line, ("yes", (), 1))

    def test_a_wrong_gate(self):
        for error, gates in WRONG_GATES + TWICE_WRONG_GATES:
            board = Board((10, [("yes", (), 1), ("no", (), 1)]), [True] * 10)
            for gate in gates:
                for line in (10, 11):
                    with self.subTest((line, gate)):
                        self.check_no_deed(board, error, board.swap, line, gate)
            check_refused(self, NoDeed, board.back)

    def test_a_gate_that_would_make_a_ring(self):
        board = Board(small_plan(), [True, False])
        for line, gate in [
            (2, ("keep", (2,), 1)), (2, ("not", (3,), 1)), (2, ("not", (4,), 1)), (2, ("keep", (5,), 1)),
            (2, ("both", (0, 5), 1)), (3, ("keep", (3,), 1)), (4, ("both", (5, 0), 1)),
            (4, ("most", (0, 1, 4), 60)), (6, ("unlike", (0, 0, 0, 0, 0, 0, 0, 0, 6), 1)),
        ]:
            with self.subTest((line, gate)):
                self.check_no_deed(board, Ringed, board.swap, line, gate)
        check_refused(self, NoDeed, board.back)
        self.check_deed(board, [3], [3], board.swap, 3, ("not", (4,), 1))
        self.check_no_deed(board, Ringed, board.swap, 4, ("both", (0, 3), 1))

    def test_a_wrong_gate_is_refused_ahead_of_its_ring(self):
        board = Board(small_plan(), [True, False])
        for error, gate in [
            (NoKind, ("nor", (2,), 1)), (NoSources, ("keep", (2, 2), 1)), (NoSources, ("both", (2,), 1)),
            (NoLine, ("both", (2, 7), 1)), (NoLine, ("both", (-1, 2), 1)), (NoDelay, ("keep", (2,), 0)),
            (NoDelay, ("keep", (5,), 61)),
        ]:
            with self.subTest(gate):
                self.check_no_deed(board, error, board.swap, 2, gate)

    def test_all_lines_of_the_plan_may_be_sources(self):
        plan = (60, [("yes", (), 1)] * 200)
        board = Board(plan, [False] * 60)
        self.check_deed(board, [], [60], board.swap, 60, ("keep", (259,), 1))
        self.check_no_deed(board, NoLine, board.swap, 60, ("keep", (260,), 1))
        self.check_deed(board, [60, 259], [60, 259], board.swap, 259, ("keep", (0,), 1))
        self.check_no_deed(board, Ringed, board.swap, 259, ("keep", (60,), 1))


class Back(BoardTest):
    def test_nothing_is_there_to_be_taken_back(self):
        for plan, ins in [((0, []), []), ((2, []), [True, False]), (small_plan(), [True, False])]:
            board = Board(plan, ins)
            for _ in range(3):
                self.check_no_deed(board, NoDeed, board.back)

    def test_a_put(self):
        board = Board(small_plan(), [True, False])
        board.put(0, False)
        self.check_deed(board, [0, 2, 3, 5], [2, 3, 4, 5], board.back)
        self.check_state(
            board, [True, False, False, False, False, False, True], [2, 3, 4, 5], small_plan(),
        )
        self.check_no_deed(board, NoDeed, board.back)

    def test_a_put_of_the_same_value(self):
        board = Board(small_plan(), [True, False])
        board.put(0, False)
        board.put(0, False)
        self.check_deed(board, [], [], board.back)
        self.check_deed(board, [0, 2, 3, 5], [2, 3, 4, 5], board.back)
        self.check_no_deed(board, NoDeed, board.back)

    def test_a_swap(self):
        for line, gate, told, touched in [
            (2, ("keep", (1,), 60), [], [2, 3, 4, 5]), (2, ("yes", (), 1), [2, 3, 5], [2, 3, 4, 5]),
            (4, ("either", (0, 0), 3), [4, 5], [4, 5]), (6, ("keep", (5,), 4), [6], [6]),
            (3, ("keep", (2,), 9), [], [3]),
        ]:
            board = Board(small_plan(), [True, False])
            before = board.shown()
            with self.subTest((line, gate)):
                self.check_deed(board, told, touched, board.swap, line, gate)
                self.check_deed(board, told, touched, board.back)
                self.check_state(board, before, touched, small_plan())
                self.check_no_deed(board, NoDeed, board.back)

    def test_again_and_again(self):
        board = Board(small_plan(), [True, False])
        deeds = [
            (board.put, 0, False), (board.swap, 6, ("keep", (4,), 1)), (board.put, 1, True),
            (board.put, 1, True), (board.swap, 2, ("keep", (1,), 2)), (board.swap, 2, ("not", (0,), 1)),
            (board.put, 0, True), (board.swap, 4, ("yes", (), 3)), (board.put, 1, False),
        ]
        done = []
        for deed, *args in deeds:
            before = (board.shown(), board.drawn())
            told = deed(*args)
            done.append((before, told, board.touched()))
        for (shown, drawn), told, touched in reversed(done):
            self.check_deed(board, told, touched, board.back)
            self.check_state(board, shown, touched, drawn)
        for _ in range(2):
            self.check_no_deed(board, NoDeed, board.back)

    def test_what_was_taken_back_is_not_taken_back_again(self):
        board = Board(small_plan(), [True, False])
        board.put(0, False)
        board.put(1, True)
        self.check_deed(board, [1, 4], [4, 5], board.back)
        self.check_deed(board, [0, 2, 3, 5], [2, 3, 4, 5], board.back)
        self.check_no_deed(board, NoDeed, board.back)

    def test_deeds_between_takings_back(self):
        board = Board(small_plan(), [True, False])
        board.put(0, False)
        board.put(1, True)
        self.check_deed(board, [1, 4], [4, 5], board.back)
        self.check_deed(board, [2, 3, 5], [2, 3, 4, 5], board.swap, 2, ("no", (), 1))
        self.check_deed(board, [2, 3, 5], [2, 3, 4, 5], board.back)
        self.check_deed(board, [0, 2, 3, 5], [2, 3, 4, 5], board.back)
        self.check_no_deed(board, NoDeed, board.back)
        self.check_deed(board, [1], [4, 5], board.put, 1, True)
        self.check_deed(board, [1], [4, 5], board.back)
        self.check_no_deed(board, NoDeed, board.back)

    def test_a_refused_deed_is_none(self):
        board = Board(small_plan(), [True, False])
        board.put(0, False)
        self.check_no_deed(board, NoLine, board.put, 2, True)
        self.check_no_deed(board, NoLine, board.swap, 1, ("yes", (), 1))
        self.check_no_deed(board, NoDelay, board.swap, 2, ("yes", (), 0))
        self.check_no_deed(board, Ringed, board.swap, 2, ("keep", (5,), 1))
        self.check_deed(board, [0, 2, 3, 5], [2, 3, 4, 5], board.back)
        self.check_no_deed(board, NoDeed, board.back)
        self.assertEqual(board.touched(), [2, 3, 4, 5])

    def test_a_swap_that_was_refused_for_a_ring_may_be_done_when_the_other_is_taken_back(self):
        board = Board((1, [("no", (), 1), ("no", (), 1)]), [True])
        board.swap(1, ("not", (2,), 1))
        self.check_no_deed(board, Ringed, board.swap, 2, ("not", (1,), 1))
        board.back()
        self.check_deed(board, [2], [2], board.swap, 2, ("not", (1,), 1))
        self.check_no_deed(board, Ringed, board.swap, 1, ("not", (2,), 1))


class Apart(BoardTest):
    def test_what_is_handed_in_is_not_kept(self):
        many, gates = small_plan()
        ins = [True, False]
        board = Board((many, gates), ins)
        before = deepcopy(state(board))
        gates[0] = ("yes", (), 9)
        gates.append(("no", (), 1))
        ins[0] = False
        ins.append(True)
        self.assertEqual(state(board), before)
        gates.clear()
        ins.clear()
        self.assertEqual(state(board), before)
        self.check_deed(board, [0, 2, 3, 5], [2, 3, 4, 5], board.put, 0, False)
        self.check_deed(board, [0, 2, 3, 5], [2, 3, 4, 5], board.back)
        self.assertEqual(board.drawn(), small_plan())

    def test_a_board_changes_nothing_that_was_handed_in(self):
        plan = small_plan()
        ins = [True, False]
        board = Board(plan, ins)
        board.put(0, False)
        board.swap(2, ("yes", (), 1))
        board.put(1, True)
        board.back()
        self.assertEqual(plan, small_plan())
        self.assertEqual(ins, [True, False])

    def test_lists_that_are_given_are_the_askers_own(self):
        board = Board(small_plan(), [True, False])
        other = Board(small_plan(), [True, False])
        deeds = [
            (Board.put, 0, False), (Board.swap, 2, ("keep", (0,), 1)), (Board.put, 0, True), (Board.back,),
            (Board.put, 1, True), (Board.swap, 4, ("yes", (), 1)), (Board.back,), (Board.back,), (Board.back,),
            (Board.put, 0, True), (Board.back,), (Board.back,),
        ]
        for deed, *args in deeds:
            told = deed(board, *args)
            self.assertEqual(told, deed(other, *args))
            for given in (told, board.shown(), board.touched(), board.drawn()[1]):
                given.reverse()
                given.append(99)
                given.append(98)
            self.assertEqual(state(board), state(other))
        self.check_no_deed(board, NoDeed, board.back)

    def test_lists_that_were_given_stay_as_they_were(self):
        board = Board(small_plan(), [True, False])
        given = [state(board)]
        for deed, *args in [
            (board.put, 0, False), (board.swap, 2, ("keep", (0,), 1)), (board.put, 1, True), (board.back,),
            (board.back,), (board.back,), (board.swap, 6, ("no", (), 1)),
        ]:
            given.append((deed(*args), state(board)))
            if len(given) == 2:
                first = deepcopy(given)
        self.assertEqual(given[:2], first)
        again = deepcopy(given)
        board.back()
        board.put(1, True)
        board.swap(3, ("no", (), 1))
        self.assertEqual(given, again)

    def test_each_asking_gives_new_lists(self):
        board = Board(small_plan(), [True, False])
        board.put(0, False)
        self.assertIsNot(board.shown(), board.shown())
        self.assertIsNot(board.touched(), board.touched())
        self.assertIsNot(board.drawn()[1], board.drawn()[1])

    def test_two_boards_of_the_same_plan_know_nothing_of_each_other(self):
        plan = small_plan()
        ins = [True, False]
        one = Board(plan, ins)
        two = Board(plan, ins)
        before = deepcopy(state(two))
        one.put(0, False)
        one.swap(2, ("yes", (), 1))
        self.assertEqual(state(two), before)
        self.check_no_deed(two, NoDeed, two.back)
        self.check_deed(two, [1], [4, 5], two.put, 1, True)
        self.assertEqual(one.shown(), [False, False, True, True, False, True, True])
        self.assertEqual(one.touched(), [2, 3, 4, 5])
        one.back()
        one.back()
        self.check_no_deed(one, NoDeed, one.back)
        self.assertEqual(two.shown(), [True, True, False, False, False, False, True])
        self.assertEqual(two.touched(), [4, 5])

    def test_a_board_of_what_another_one_tells(self):
        one = Board(small_plan(), [True, False])
        one.put(0, False)
        two = Board(one.drawn(), one.shown()[:2])
        self.assertEqual(two.shown(), one.shown())
        self.assertEqual(two.touched(), [])
        self.check_no_deed(two, NoDeed, two.back)
        two.swap(2, ("no", (), 1))
        self.assertEqual(one.drawn(), small_plan())


if __name__ == "__main__":
    unittest.main()

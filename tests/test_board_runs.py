"""Points 14 and 15: boards with many deeds, beside a model that works out all anew each time."""

import unittest

from signalgraph.boards import Board
from signalgraph.errors import NoDeed, NoLine, Ringed
from tests.helper import check_refused, kinds_of
from tests.plain import (
    mixed_gate, mixed_values, plain_numbers, plain_order, plain_seers, plainly_settled, ringless_plan,
    row_of_gates, row_of_nines, row_on_later_lines,
)


class Model:
    """A board by the words of points 14 and 15: what it was ahead of each deed is all kept."""

    def __init__(self, plan, ins):
        self.plan = plan
        self.ins = ins
        self.seen = []
        self.ahead = []

    def shown(self):
        return plainly_settled(self.plan, self.ins)

    def turn(self, plan, ins, seen):
        before = self.shown()
        self.plan = plan
        self.ins = ins
        self.seen = seen
        return [line for line, value in enumerate(self.shown()) if value != before[line]]

    def put(self, line, value):
        seen = [] if self.ins[line] == value else plain_seers(self.plan, line)
        self.ahead.append((self.plan, self.ins, seen))
        ins = self.ins[:line] + [value] + self.ins[line + 1:]
        return self.turn(self.plan, ins, seen)

    def swapped(self, line, gate):
        """The plan as it would be."""
        many, gates = self.plan
        at = line - many
        return (many, gates[:at] + [gate] + gates[at + 1:])

    def swap(self, line, gate):
        plan = self.swapped(line, gate)
        seen = sorted(set([line] + plain_seers(plan, line)))
        self.ahead.append((self.plan, self.ins, seen))
        return self.turn(plan, self.ins, seen)

    def back(self):
        return self.turn(*self.ahead.pop())


class Runs(unittest.TestCase):
    def check_same(self, board, model):
        self.assertEqual(board.shown(), model.shown())
        self.assertEqual(board.touched(), model.seen)
        self.assertEqual(board.drawn(), model.plan)
        self.assertEqual(kinds_of(board.shown()), (list, [bool] * len(board.shown())))

    def do_put(self, board, model, numbers):
        line = next(numbers) % len(model.ins)
        value = next(numbers) % 2 == 1
        self.assertEqual(board.put(line, value), model.put(line, value))

    def do_swap(self, board, model, numbers):
        many, gates = model.plan
        line = many + next(numbers) % len(gates)
        gate = mixed_gate(numbers, range(many + len(gates)))
        if plain_order(model.swapped(line, gate)) is None:
            check_refused(self, Ringed, board.swap, line, gate)
        else:
            self.assertEqual(board.swap(line, gate), model.swap(line, gate))

    def do_back(self, board, model):
        if model.ahead:
            self.assertEqual(board.back(), model.back())
        else:
            check_refused(self, NoDeed, board.back)

    def run_deeds(self, plan, seed, deeds):
        """So many mixed deeds, and then all that are left to be taken back."""
        many = plan[0]
        ins = mixed_values(seed, many)
        board = Board(plan, ins)
        model = Model(plan, ins)
        numbers = plain_numbers(seed)
        for _ in range(deeds):
            chance = next(numbers) % 10
            if chance < 3 and many:
                self.do_put(board, model, numbers)
            elif chance < 7:
                self.do_swap(board, model, numbers)
            elif chance < 9:
                self.do_back(board, model)
            else:
                check_refused(self, NoLine, board.put, many, True)
            self.check_same(board, model)
        while model.ahead:
            self.do_back(board, model)
            self.check_same(board, model)
        self.do_back(board, model)
        self.assertEqual(board.drawn(), plan)
        self.assertEqual(board.shown(), plainly_settled(plan, ins))

    def test_small_boards(self):
        for seed in range(60):
            with self.subTest(seed):
                self.run_deeds(ringless_plan(seed, seed % 4, 1 + seed % 7), seed, 60)

    def test_boards_of_some_size(self):
        for seed in range(6):
            with self.subTest(seed):
                self.run_deeds(ringless_plan(seed, 8, 40), seed, 60)

    def test_great_boards(self):
        self.run_deeds(ringless_plan(2, 60, 200), 2, 40)


class Great(unittest.TestCase):
    """Some hundred deeds on two hundred gates, all taken back."""

    def take_all_back(self, board, done):
        for told, touched, shown in reversed(done):
            self.assertEqual(board.back(), told)
            self.assertEqual(board.touched(), touched)
            self.assertEqual(board.shown(), shown)
        check_refused(self, NoDeed, board.back)

    def test_puts(self):
        for plan, line in [
            (row_of_gates(60, 200), 59), (row_on_later_lines(60, 200), 0), (row_of_nines(60, 200), 55),
        ]:
            board = Board(plan, [False] * 60)
            done = []
            for at in range(500):
                shown = board.shown()
                told = board.put(line, at % 3 == 0)
                done.append((told, board.touched(), shown))
                same = shown[line] == (at % 3 == 0)
                self.assertEqual(board.touched(), [] if same else list(range(60, 260)))
            self.take_all_back(board, done)
            self.assertEqual(board.drawn(), plan)

    def test_swaps(self):
        plan = row_of_gates(60, 200)
        board = Board(plan, [True] * 60)
        done = []
        for at in range(400):
            line = 60 + (at * 77) % 200
            kind = ("not", "keep")[at % 2]
            shown = board.shown()
            told = board.swap(line, (kind, (line - 1,), 1 + at % 60))
            self.assertEqual(board.touched(), list(range(line, 260)))
            done.append((told, board.touched(), shown))
        self.take_all_back(board, done)
        self.assertEqual(board.drawn(), plan)

    def test_swaps_that_would_make_a_ring(self):
        board = Board(row_of_gates(60, 200), [True] * 60)
        for line in range(60, 260):
            check_refused(self, Ringed, board.swap, line, ("keep", (259,), 1))
        self.assertEqual(board.drawn(), row_of_gates(60, 200))
        check_refused(self, NoDeed, board.back)


if __name__ == "__main__":
    unittest.main()

"""Point 5: each function that takes a plan refuses a wrong one ahead of all else."""

import unittest

from signalgraph.boards import Board
from signalgraph.errors import NoDelay, NoKind, NoLine, NoSize, NoSources
from signalgraph.notes import written
from signalgraph.orders import late, order, quiet, ring, seers
from signalgraph.plans import checked, trimmed
from signalgraph.settling import settled, stepped
from tests.helper import FAR, check_refused, wrong_plans

# Each function with what it is handed behind the plan, right for a plan of three inputs and nine
# gates, and wrong.
CALLS = [
    (checked,),
    (trimmed, [0]), (trimmed, [-1]), (trimmed, [FAR, 0]),
    (order,), (ring,), (late,), (quiet,), (written,),
    (seers, 0), (seers, 11), (seers, -1), (seers, 12), (seers, FAR), (seers, -FAR),
    (settled, [True] * 3), (settled, []), (settled, [False] * 61),
    (Board, [True] * 3), (Board, []), (Board, [False] * 61),
    (stepped, [True] * 12, [[True] * 3] * 2), (stepped, [True] * 12, []), (stepped, [], []),
    (stepped, [True] * 12, [[True] * 3, []]), (stepped, [True] * 13, [[True]]),
]

RING = [("keep", (1,), 1), ("both", (0, 1), 1)]


def wrong_plans_with_a_ring():
    """Plans of an input that have a ring and are wrong too, each behind its error."""
    plans = [(NoSize, (-1, RING)), (NoSize, (61, RING)), (NoSize, (1, RING * 101))]
    for error, gate in [
        (NoKind, ("nor", (1, 2), 1)), (NoSources, ("keep", (), 1)), (NoLine, ("keep", (4,), 1)),
        (NoLine, ("both", (3, -1), 1)), (NoDelay, ("keep", (3,), 0)), (NoDelay, ("yes", (), 61)),
    ]:
        plans += [(error, (1, RING + [gate])), (error, (1, [gate] + RING))]
    return plans


class Refusals(unittest.TestCase):
    def check_calls(self, error, plan):
        for function, *rest in CALLS:
            with self.subTest((function.__name__, rest, plan)):
                check_refused(self, error, function, plan, *rest)

    def test_a_wrong_plan(self):
        for error, plan in wrong_plans():
            self.check_calls(error, plan)

    def test_a_wrong_plan_that_has_a_ring_too(self):
        for error, plan in wrong_plans_with_a_ring():
            self.check_calls(error, plan)

    def test_a_plan_of_no_inputs(self):
        for error, gate in [
            (NoKind, ("", (), 1)), (NoSources, ("no", (0,), 1)), (NoLine, ("keep", (1,), 1)),
            (NoDelay, ("yes", (), 0)),
        ]:
            self.check_calls(error, (0, [gate]))


if __name__ == "__main__":
    unittest.main()

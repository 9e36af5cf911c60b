"""Boards: a plan that is kept settled while it changes."""

from signalgraph.errors import NoDeed, NoLine
from signalgraph.orders import seers
from signalgraph.plans import check_gate
from signalgraph.settling import answered, settled


class Board:
    """A plan without a ring and a value for each input, with all lines settled.

    Each deed gives the list, rising, of the lines whose values are others behind it.
    A deed that is refused changes nothing.
    """

    # Deeds that were done hold on to the gates and values ahead of them. So these lists are
    # never changed: a deed makes new ones in their place.

    def __init__(self, plan, ins):
        self._values = settled(plan, ins)
        many, gates = plan
        self._many = many
        self._gates = list(gates)
        # For each deed not taken back: the gates and values ahead of it, and what it touched.
        self._deeds = []
        self._seen = []

    def _turn(self, gates, values, seen):
        """Turn to other gates and values; the lines whose values are others."""
        before = self._values
        self._gates = gates
        self._values = values
        self._seen = seen
        return [line for line, value in enumerate(values) if value != before[line]]

    def _do(self, gates, values, seen):
        """Turn to other gates and values by a deed that may be taken back."""
        again = answered((self._many, gates), values, seen)
        self._deeds.append((self._gates, self._values, seen))
        return self._turn(gates, again, seen)

    def put(self, line, value):
        """Put an input to a value."""
        if line < 0 or line >= self._many:
            raise NoLine("a number is none of the inputs")
        seen = []
        if self._values[line] != value:
            seen = seers((self._many, self._gates), line)
        values = list(self._values)
        values[line] = value
        return self._do(self._gates, values, seen)

    def swap(self, line, gate):
        """Swap the gate that gives the line for another one."""
        lines = len(self._values)
        if line < self._many or line >= lines:
            raise NoLine("a number is none of the gates' lines")
        check_gate(gate, lines)
        gates = list(self._gates)
        gates[line - self._many] = gate
        seen = sorted([line] + seers((self._many, gates), line))
        return self._do(gates, self._values, seen)

    def back(self):
        """Take back the last deed that was done and not taken back."""
        if not self._deeds:
            raise NoDeed("no deed is there to be taken back")
        gates, values, seen = self._deeds.pop()
        return self._turn(gates, values, seen)

    def shown(self):
        """The values of all lines now."""
        return list(self._values)

    def touched(self):
        """The lines, rising, of the gates that the last deed touched."""
        return list(self._seen)

    def drawn(self):
        """The plan now."""
        return (self._many, list(self._gates))

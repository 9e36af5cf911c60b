"""Plans settled at once, and stepped time by time."""

from signalgraph.errors import NoValues
from signalgraph.gates import answer
from signalgraph.orders import order
from signalgraph.plans import checked


def _check_values(values, number):
    """Refuse values that are not so many."""
    if len(values) != number:
        raise NoValues(f"there are {len(values)} values for {number} lines")


def answered(plan, values, touched):
    """The values of all lines where the touched gates answer anew, each behind its sources.

    A wrong plan and one with a ring are refused.
    """
    many, gates = plan
    again = list(values)
    anew = set(touched)
    for line in order(plan):
        if line in anew:
            kind, sources, _ = gates[line - many]
            again[line] = answer(kind, [again[source] for source in sources])
    return again


def settled(plan, ins):
    """The settled values of all lines, of the inputs' values. A plan with a ring is refused."""
    lines = checked(plan)
    many, gates = plan
    _check_values(ins, many)
    unknown = [False] * len(gates)
    return answered(plan, list(ins) + unknown, list(range(many, lines)))


def stepped(plan, begin, rows):
    """The values of all lines at the times 0, 1 and so on, one list for each row of the inputs'.

    At all times below nought the lines have the values of the begin.
    """
    lines = checked(plan)
    many, gates = plan
    _check_values(begin, lines)
    for row in rows:
        _check_values(row, many)
    told = []
    for now, row in enumerate(rows):
        values = list(row)
        for kind, sources, delay in gates:
            then = told[now - delay] if delay <= now else begin
            values.append(answer(kind, [then[source] for source in sources]))
        told.append(values)
    return told

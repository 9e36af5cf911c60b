"""Plans to be tried, and second, plain ways to what the document promises of them.

Nothing here uses the program: what it gives is compared with what stands here.
"""

from functools import lru_cache
from itertools import product

from tests.helper import TAKES


def row_of_gates(many, length):
    """A plan of gates in a row, one hanging on the other."""
    return (many, [("keep", (many + at - 1,), 1 + at % 60) for at in range(length)])


def row_on_later_lines(many, length):
    """A plan of gates in a row, each hanging on the next line, the last one on the first input."""
    gates = [("not", (many + at + 1,), 1 + at % 60) for at in range(length - 1)]
    return (many, gates + [("not", (0,), 60)])


def row_of_nines(many, length):
    """A plan of gates of nine sources each, the nine lines ahead of the gate."""
    gates = []
    for line in range(many, many + length):
        gates.append(("unlike", tuple(range(line - 9, line)), 1 + line % 60))
    return (many, gates)


def ring_of_gates(length):
    """A plan of gates in a ring without inputs."""
    return (0, [("not", ((at + 1) % length,), 1 + at % 60) for at in range(length)])


def plain_numbers(seed):
    """Numbers without end that look mixed, the same ones for the same seed."""
    while True:
        seed = (seed * 1103515245 + 12345) % 2 ** 31
        yield seed >> 12


def mixed_gate(numbers, lines):
    """A gate of any kind whose sources are of these lines."""
    kinds = sorted(TAKES) if lines else ["no", "yes"]
    kind = kinds[next(numbers) % len(kinds)]
    takes = TAKES[kind][next(numbers) % min(4, len(TAKES[kind]))]
    sources = tuple(lines[next(numbers) % len(lines)] for _ in range(takes))
    return (kind, sources, 1 + next(numbers) % 60)


def mixed_plan(seed, many, length):
    """A plan of all kinds of gates, mostly with rings, the same one for the same seed."""
    numbers = plain_numbers(seed)
    lines = range(many + length)
    return (many, [mixed_gate(numbers, lines) for _ in range(length)])


def mixed_order(numbers, lines):
    """The lines in a mixed order."""
    return sorted(lines, key=lambda line: (next(numbers), line))


def ringless_plan(seed, many, length):
    """A plan of all kinds of gates without a ring, many of them hanging on later lines."""
    numbers = plain_numbers(seed)
    turn = mixed_order(numbers, range(many, many + length))
    # The lines just ahead come several times, so that long ways are made.
    gates = {}
    known = list(range(many))
    for line in turn:
        gates[line] = mixed_gate(numbers, known + known[-4:] * 3)
        known.append(line)
    return (many, [gates[line] for line in sorted(gates)])


def mixed_values(seed, number):
    """So many values, the same ones for the same seed."""
    numbers = plain_numbers(seed)
    return [next(numbers) % 2 == 1 for _ in range(number)]


def all_values(number):
    """All lists of so many values."""
    return [list(row) for row in product((False, True), repeat=number)]


def small_plans():
    """All plans of an input and three gates out of some few gates, with rings and without."""
    sources = [(0,), (1,), (2,), (3,), (0, 1), (1, 3), (3, 2), (2, 2)]
    gates = [("yes", (), 2)]
    gates += [("not" if len(row) == 1 else "unlike", row, 1 + row[0]) for row in sources]
    return [(1, list(row)) for row in product(gates, repeat=3)]


def plainly_answered(kind, given):
    """What a gate of the kind answers, by point 4."""
    told = {
        "yes": True,
        "no": False,
        "keep": given[:1] == [True],
        "not": given[:1] == [False],
        "both": False not in given,
        "either": True in given,
        "unlike": given.count(True) in (1, 3, 5, 7, 9),
        "pick": given[1:2] == [True] if given[:1] == [True] else given[2:3] == [True],
        "most": given.count(True) in (2, 3),
    }
    return told[kind]


def plain_order(plan):
    """The order by the words of point 6, None where there is none."""
    many, gates = plan
    found = []
    there = set(range(many))
    while len(found) < len(gates):
        ready = [
            many + at for at, (_, sources, _) in enumerate(gates)
            if many + at not in there and there.issuperset(sources)
        ]
        if not ready:
            return None
        found.append(min(ready))
        there.add(min(ready))
    return found


def plain_seers(plan, line):
    """The seers by the words of point 9: look through all gates until there are no more."""
    many, gates = plan
    sees = set()
    before = None
    while before != sees:
        before = set(sees)
        for at, (_, sources, _) in enumerate(gates):
            if line in sources or before.intersection(sources):
                sees.add(many + at)
    return sorted(sees)


def plain_late(plan):
    """The late times by the words of point 8, of a plan without a ring."""
    many, gates = plan

    @lru_cache(maxsize=None)
    def time_of(line):
        if line < many or not gates[line - many][1]:
            return 0
        _, sources, delay = gates[line - many]
        return delay + max(time_of(source) for source in sources)

    return [time_of(line) for line in range(many + len(gates))]


def plainly_settled(plan, ins):
    """The settled values by point 10: answer all gates again until nothing becomes another."""
    many, gates = plan
    values = list(ins) + [False] * len(gates)
    before = None
    while before != values:
        before = list(values)
        for at, (kind, sources, _) in enumerate(gates):
            values[many + at] = plainly_answered(kind, [values[source] for source in sources])
    return values


def plainly_stepped(plan, begin, rows):
    """The values of all lines, time by time, by the words of point 11."""
    many, gates = plan

    @lru_cache(maxsize=None)
    def value_at(line, time):
        if time < 0:
            return begin[line]
        if line < many:
            return rows[time][line]
        kind, sources, delay = gates[line - many]
        return plainly_answered(kind, [value_at(source, time - delay) for source in sources])

    lines = range(many + len(gates))
    return [[value_at(line, time) for line in lines] for time in range(len(rows))]

"""Plans: whether one is right, and what is left of one for some of its lines."""

from signalgraph.errors import NoDelay, NoLine, NoSize
from signalgraph.gates import check_number

MOST_INPUTS = 60
MOST_GATES = 200
MOST_DELAY = 60

# No message below repeats a number that was handed in: such a number may be so long
# that Python refuses to write it out, and then another error would be raised instead.


def check_line(line, lines):
    """Refuse a number that is none of so many lines."""
    if line < 0 or line >= lines:
        raise NoLine(f"a number is none of the plan's {lines} lines")


def check_gate(gate, lines):
    """Refuse a gate that is wrong in a plan of so many lines."""
    kind, sources, delay = gate
    check_number(kind, len(sources))
    for source in sources:
        check_line(source, lines)
    if delay < 1 or delay > MOST_DELAY:
        raise NoDelay(f"a delay of a gate is not from 1 to {MOST_DELAY}")


def checked(plan):
    """How many lines the plan has. A wrong plan is refused by what is wrong first."""
    many, gates = plan
    if many < 0 or many > MOST_INPUTS:
        raise NoSize(f"the number of inputs is not from 0 to {MOST_INPUTS}")
    if len(gates) > MOST_GATES:
        raise NoSize(f"there are more than {MOST_GATES} gates")
    lines = many + len(gates)
    for gate in gates:
        check_gate(gate, lines)
    return lines


def _staying(plan, outs):
    """The lines, rising, that stay where the plan is trimmed to the outs."""
    many, gates = plan
    stays = [line < many for line in range(many + len(gates))]
    waiting = list(outs)
    while waiting:
        line = waiting.pop()
        # A line is followed only once, or a ring would be followed for ever.
        if not stays[line]:
            stays[line] = True
            waiting.extend(gates[line - many][1])
    return [line for line, stay in enumerate(stays) if stay]


def _renumbered(gate, places):
    """The gate with its sources by their new numbers."""
    kind, sources, delay = gate
    return (kind, tuple([places[source] for source in sources]), delay)


def trimmed(plan, outs):
    """The plan trimmed to the outs, and the lines of the whole plan, rising, that stay."""
    lines = checked(plan)
    for out in outs:
        check_line(out, lines)
    many, gates = plan
    stay = _staying(plan, outs)
    places = {line: place for place, line in enumerate(stay)}
    # All inputs stay, so the gates among the lines that stay begin at the same number.
    left = [_renumbered(gates[line - many], places) for line in stay[many:]]
    return ((many, left), stay)

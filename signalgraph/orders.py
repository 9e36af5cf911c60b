"""The order of a plan's gates, rings, late times, and which gates see a line."""

from heapq import heappop, heappush

from signalgraph.errors import Ringed
from signalgraph.plans import check_line, checked


def _readers(plan):
    """For each line the gates that have it as a source, each as often as it has it."""
    many, gates = plan
    readers = [[] for _ in range(many + len(gates))]
    for line, gate in enumerate(gates, start=many):
        for source in gate[1]:
            readers[source].append(line)
    return readers


def _in_order(plan):
    """The gates' lines in order, but for those on a ring and those that see one."""
    many, gates = plan
    readers = _readers(plan)
    # A source that a gate has several times is awaited, and comes, just as often.
    awaited = [len([source for source in gate[1] if source >= many]) for gate in gates]
    # A rising list is a heap already.
    ready = [many + at for at, number in enumerate(awaited) if number == 0]
    found = []
    while ready:
        line = heappop(ready)
        found.append(line)
        for reader in readers[line]:
            awaited[reader - many] -= 1
            if awaited[reader - many] == 0:
                heappush(ready, reader)
    return found


def order(plan):
    """The list of all gates' lines, each behind its sources. A plan with a ring is refused."""
    checked(plan)
    found = _in_order(plan)
    if len(found) < len(plan[1]):
        raise Ringed("the plan has a ring")
    return found


def _left_out(plan, found):
    """For each line whether it is a gate's that is not found."""
    many, gates = plan
    left = [line >= many for line in range(many + len(gates))]
    for line in found:
        left[line] = False
    return left


def _walked(plan, left):
    """A ring among the gates that are left, backwards: each line has the next as a source."""
    many, gates = plan
    line = left.index(True)
    walk = []
    while line not in walk:
        walk.append(line)
        # A gate that is left has a source that is left, or it would have its turn.
        line = [source for source in gates[line - many][1] if left[source]][0]
    return walk[walk.index(line):]


def ring(plan):
    """A ring of the plan, None where there is none."""
    checked(plan)
    found = _in_order(plan)
    if len(found) == len(plan[1]):
        return None
    return _walked(plan, _left_out(plan, found))[::-1]


def late(plan):
    """The late times of all lines. A plan with a ring is refused."""
    many, gates = plan
    found = order(plan)
    times = [0] * (many + len(gates))
    for line in found:
        _, sources, delay = gates[line - many]
        if sources:
            times[line] = delay + max([times[source] for source in sources])
    return times


def quiet(plan):
    """The greatest late time, 0 for a plan without lines. A plan with a ring is refused."""
    return max(late(plan), default=0)


def seers(plan, line):
    """The lines, rising, of the gates that hang on the line, straight or through others."""
    lines = checked(plan)
    check_line(line, lines)
    readers = _readers(plan)
    sees = [False] * lines
    waiting = list(readers[line])
    while waiting:
        reader = waiting.pop()
        # A gate is followed only once, or a ring would be followed for ever.
        if not sees[reader]:
            sees[reader] = True
            waiting.extend(readers[reader])
    return [at for at, sight in enumerate(sees) if sight]

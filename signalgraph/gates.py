"""The kinds of gates: how many sources each takes, and what it answers."""

from signalgraph.errors import NoKind, NoSources


def _yes(given):
    """True, whatever else is."""
    return True


def _no(given):
    """False, whatever else is."""
    return False


def _keep(given):
    """The value of the one source."""
    return given[0]


def _not(given):
    """The other value than that of the one source."""
    return not given[0]


def _both(given):
    """Whether all are True."""
    return all(given)


def _either(given):
    """Whether at least one is True."""
    return any(given)


def _unlike(given):
    """Whether those that are True are odd in number."""
    return sum(given) % 2 == 1


def _pick(given):
    """The second value where the first one is True, else the third one."""
    return given[1] if given[0] else given[2]


def _most(given):
    """Whether at least two of the three are True."""
    return sum(given) >= 2


# For each kind the least and the greatest number of its sources.
NUMBERS = {
    "yes": (0, 0),
    "no": (0, 0),
    "keep": (1, 1),
    "not": (1, 1),
    "both": (2, 9),
    "either": (2, 9),
    "unlike": (2, 9),
    "pick": (3, 3),
    "most": (3, 3),
}

RULES = {
    "yes": _yes,
    "no": _no,
    "keep": _keep,
    "not": _not,
    "both": _both,
    "either": _either,
    "unlike": _unlike,
    "pick": _pick,
    "most": _most,
}


def wants(kind):
    """The least and the greatest number of sources that the kind takes."""
    if kind not in NUMBERS:
        raise NoKind(f"{kind!r} is no kind of gate")
    return NUMBERS[kind]


def check_number(kind, number):
    """Refuse a word that is no kind, then a number of sources that the kind does not take."""
    least, greatest = wants(kind)
    if number < least or number > greatest:
        raise NoSources(f"a gate of the kind {kind} does not take {number} sources")


def answer(kind, given):
    """What a gate of the kind answers of its sources' values."""
    check_number(kind, len(given))
    rule = RULES[kind]
    return rule(given)

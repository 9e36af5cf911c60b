"""What several tests use: the kinds, words that are none, wrong plans, and how refusals are checked."""

from copy import deepcopy

from signalgraph.errors import NoDelay, NoKind, NoLine, NoSize, NoSources, SignalError

FAR = 10 ** 30

# The kinds of point 4, each with the numbers of sources that it takes.
TAKES = {
    "yes": [0],
    "no": [0],
    "keep": [1],
    "not": [1],
    "both": [2, 3, 4, 5, 6, 7, 8, 9],
    "either": [2, 3, 4, 5, 6, 7, 8, 9],
    "unlike": [2, 3, 4, 5, 6, 7, 8, 9],
    "pick": [3],
    "most": [3],
}

SMALL_LETTERS = "abcdefghijklmnopqrstuvwxyz"

ODD_WORDS = [
    "", " ", "\t", "\n", "\0", "0", "1", "-1", "True", "False", "None", "nope", "in", "by", "and",
    "or", "xor", "nand", "nor", "buffer", "choose", "all", "any", "odd", "kind", "yes no",
    "keepkeep", "k\u0435ep", "\uff59es", "n\u00f8", "x" * 1000,
]


def near_words(kind):
    """Words that are the kind but for a blank, a great letter, or a letter put elsewhere."""
    words = [kind.upper(), kind.capitalize(), kind[::-1], kind + kind]
    for at in range(len(kind) + 1):
        words += [kind[:at] + sign + kind[at:] for sign in SMALL_LETTERS + " \t\n\0_-A0"]
    for at in range(len(kind)):
        rest = kind[:at] + kind[at + 1:]
        words.append(rest)
        words.append(kind[:at] + kind[at].upper() + kind[at + 1:])
        words += [kind[:at] + sign + kind[at + 1:] for sign in SMALL_LETTERS]
        words += [rest[:to] + kind[at] + rest[to:] for to in range(len(kind))]
    return words


def words_that_are_no_kind():
    """All words that the tests try as kinds, though they are none."""
    words = ODD_WORDS + [word for kind in TAKES for word in near_words(kind)]
    return sorted({word for word in words if word not in TAKES})


def wrong_numbers(kind):
    """Numbers of sources that the kind does not take."""
    return [number for number in [*range(13), 19, 60, 61, 300] if number not in TAKES[kind]]


def right_gates(lines):
    """Nine gates, one of each kind, that are right in a plan of so many lines, ten at least."""
    last = lines - 1
    return [
        ("yes", (), 1),
        ("keep", (last,), 60),
        ("both", (0, last), 2),
        ("pick", (last, 0, 1), 59),
        ("unlike", (0, 1, 2, 3, 4, 5, 6, last, last), 30),
        ("either", (3, 3, 3, 3, 3), 1),
        ("most", (2, 1, 0), 60),
        ("not", (9,), 7),
        ("no", (), 60),
    ]


# Gates that are wrong by one thing alone, in a plan of twelve lines, by what they are refused.
WRONG_GATES = [
    (NoKind, [
        ("nor", (0, 1), 1), ("", (), 1), ("keep ", (0,), 1), (" keep", (0,), 1), ("k eep", (0,), 1),
        ("Keep", (0,), 60), ("NOT", (0,), 1), ("keeep", (0,), 1), ("kep", (0,), 1),
        ("ekep", (0,), 1), ("boht", (0, 1), 1), ("input", (), 1),
    ]),
    (NoSources, [
        (kind, (0,) * number, 1) for kind in TAKES for number in wrong_numbers(kind)
    ]),
    (NoLine, [
        ("keep", (-1,), 1), ("keep", (12,), 1), ("keep", (13,), 1), ("not", (FAR,), 1),
        ("not", (-FAR,), 60), ("both", (-1, 0), 1), ("both", (0, -1), 1), ("either", (12, 11), 1),
        ("either", (11, 12), 1), ("pick", (0, 12, 1), 1), ("most", (0, 1, -12), 60),
        ("most", (60, 1, 2), 60), ("pick", (0, 1, 260), 1),
    ] + [
        ("unlike", (0,) * at + (line,) + (11,) * (8 - at), 1)
        for at in range(9) for line in (-1, 12, FAR, -FAR)
    ]),
    (NoDelay, [
        ("yes", (), 0), ("no", (), 61), ("keep", (11,), -1), ("not", (0,), -5), ("both", (0, 1), FAR),
        ("either", (0, 1), -FAR), ("unlike", (0, 1), 62), ("pick", (0, 1, 2), 0),
        ("most", (0, 1, 2), 61), ("yes", (), FAR), ("no", (), -FAR), ("keep", (0,), 200),
    ]),
]

# Gates that are wrong by several things, in a plan of twelve lines, by what comes first.
TWICE_WRONG_GATES = [
    (NoKind, [
        ("nor", (), 1), ("nor", (0,) * 10, 1), ("nor", (-1,), 1), ("", (12, 0), 1),
        ("Keep", (0,), 0), ("keep ", (0,), 61), ("nor", (FAR,) * 300, -FAR),
    ]),
    (NoSources, [
        ("keep", (0, 12), 1), ("yes", (-1,), 1), ("both", (-1,), 1), ("pick", (0, FAR), 1),
        ("most", (), 0), ("not", (0, 1), 61), ("no", (0,), FAR), ("unlike", (-1,) * 10, -5),
        ("either", (12,), 0),
    ]),
    (NoLine, [
        ("keep", (12,), 0), ("not", (-1,), 61), ("both", (0, FAR), -5), ("most", (0, 1, -FAR), FAR),
        ("unlike", (0, 1, 2, 3, 4, 5, 6, 7, 12), 0),
    ]),
]


def wrong_sizes():
    """Plans that are wrong by their size."""
    gate = ("yes", (), 1)
    plans = [(many, []) for many in (-1, -2, -60, -FAR, 61, 62, 260, FAR)]
    plans += [(many, [gate]) for many in (-1, -FAR, 61, FAR)]
    plans += [(many, [gate] * 201) for many in (-1, 0, 1, 60, 61, FAR)]
    plans += [(0, [gate] * 202), (3, [gate] * 1000)]
    # What else is wrong with them comes behind their size.
    for wrong in [("nor", (), 1), ("yes", (0,), 1), ("keep", (FAR,), 1), ("yes", (), 0)]:
        plans += [(-1, [wrong]), (61, [wrong]), (FAR, [wrong]), (0, [wrong] * 201)]
        plans += [(2, [wrong] + [gate] * 200), (2, [gate] * 200 + [wrong])]
    return plans


def with_gate(gate, place):
    """A plan of twelve lines, nine of them gates, in which the gate stands in that place."""
    gates = right_gates(12)
    gates[place] = gate
    return (3, gates)


def wrong_gates():
    """Plans in which one gate is wrong, at the first, a middle and the last place."""
    return [
        (error, with_gate(gate, place))
        for error, gates in WRONG_GATES + TWICE_WRONG_GATES
        for gate in gates
        for place in (0, 4, 8)
    ]


def two_wrong_gates():
    """Plans in which two gates are wrong, each by another thing: the first one is told."""
    plans = []
    for error, gates in WRONG_GATES:
        for other, others in WRONG_GATES:
            if error is not other:
                for first, second in [(0, 1), (0, 8), (3, 5), (7, 8)]:
                    many, mixed = with_gate(gates[0], first)
                    mixed[second] = others[0]
                    plans.append((error, (many, mixed)))
    return plans


def wrong_plans():
    """Wrong plans, each behind the error by which it is refused."""
    return [(NoSize, plan) for plan in wrong_sizes()] + wrong_gates() + two_wrong_gates()


def check_refused(test, error, function, *args):
    """The call raises just that error, and leaves what it was handed as it was."""
    before = deepcopy(args)
    with test.assertRaises(error) as caught:
        function(*args)
    test.assertIs(type(caught.exception), error)
    test.assertIsInstance(caught.exception, SignalError)
    test.assertIsInstance(caught.exception, ValueError)
    check_same(test, args, before)


def kinds_of(value):
    """The classes of a value and, for a list or a tuple, of all that is in it."""
    if isinstance(value, (list, tuple)):
        return (type(value), [kinds_of(part) for part in value])
    return type(value)


def check_same(test, given, told):
    """Both are the same. Where great lists are not, assertEqual would take minutes to tell why."""
    if given != told:
        test.fail(f"given {repr(given)[:500]} but told {repr(told)[:500]}")


def check_told(test, told, function, *args):
    """The call gives just what is told, and leaves what it was handed as it was."""
    before = deepcopy(args)
    given = function(*args)
    check_same(test, given, told)
    check_same(test, kinds_of(given), kinds_of(told))
    check_same(test, args, before)


def spoil(value):
    """Change all lists in the value, as an asker may."""
    if isinstance(value, (list, tuple)):
        for part in value:
            spoil(part)
    if isinstance(value, list):
        value.reverse()
        value.append("spoilt")


def check_apart(test, function, *args):
    """What the call gives has nothing to do with what it was handed or with what it gave before."""
    before = deepcopy(args)
    first = function(*args)
    told = deepcopy(first)
    second = function(*args)
    spoil(first)
    check_same(test, args, before)
    check_same(test, second, told)
    check_same(test, function(*args), told)
    spoil(args)
    check_same(test, second, told)

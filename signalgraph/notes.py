"""Plans written as texts, and read from them."""

from signalgraph.errors import NoText
from signalgraph.plans import checked

MOST_FIGURES = 9


def _row(gate):
    """The row that tells the gate."""
    kind, sources, delay = gate
    words = [kind] + [str(source) for source in sources] + ["by", str(delay)]
    return " ".join(words)


def written(plan):
    """The text that tells the plan."""
    checked(plan)
    many, gates = plan
    return "\n".join([f"in {many}"] + [_row(gate) for gate in gates])


def _number(word):
    """The number that the figures tell."""
    # Without the look at ASCII other scripts' figures would be taken for figures too.
    if not (word.isascii() and word.isdigit()):
        raise NoText("a word is no number")
    if len(word) > MOST_FIGURES:
        raise NoText(f"a number has more than {MOST_FIGURES} figures")
    if word[0] == "0" and word != "0":
        raise NoText("a number begins with a nought")
    return int(word)


def _many(row):
    """The number of inputs that the first row tells."""
    words = row.split(" ")
    if len(words) != 2 or words[0] != "in":
        raise NoText("the first row is not of the form: in MANY")
    return _number(words[1])


def _gate(row):
    """The gate that a row behind the first one tells."""
    words = row.split(" ")
    if len(words) < 3 or words[-2] != "by":
        raise NoText("a row is not of the form: KIND SOURCE SOURCE .. by DELAY")
    kind = words[0]
    if not (kind.isascii() and kind.isalpha() and kind.islower()):
        raise NoText("a kind is not a word of small letters")
    sources = tuple([_number(word) for word in words[1:-2]])
    return (kind, sources, _number(words[-1]))


def read(text):
    """The plan that the text tells."""
    rows = text.split("\n")
    many = _many(rows[0])
    gates = [_gate(row) for row in rows[1:]]
    plan = (many, gates)
    checked(plan)
    return plan

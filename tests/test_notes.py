"""Point 16: plans written and read."""

import re
import unittest

from signalgraph.errors import NoDelay, NoKind, NoLine, NoSize, NoSources, NoText
from signalgraph.notes import read, written
from signalgraph.plans import checked
from tests.helper import (
    TAKES, TWICE_WRONG_GATES, WRONG_GATES, check_apart, check_refused, check_told, right_gates, wrong_plans,
)
from tests.plain import (
    mixed_plan, ring_of_gates, ringless_plan, row_of_gates, row_of_nines, row_on_later_lines, small_plans,
)

NUMBER = "(?:0|[1-9][0-9]{0,8})"
FORM = re.compile(f"in {NUMBER}(?:\n[a-z]+(?: {NUMBER})* by {NUMBER})*")


def plainly_written(plan):
    """The rows of point 16, of any plan, also a wrong one."""
    many, gates = plan
    text = "in " + str(many)
    for kind, sources, delay in gates:
        text += "\n" + kind
        for source in sources:
            text += " " + str(source)
        text += " by " + str(delay)
    return text


def plainly_read(text):
    """The plan, also a wrong one, of a text that is of the form of point 16."""
    first, *rows = text.split("\n")
    gates = []
    for row in rows:
        words = row.split()
        gates.append((words[0], tuple(int(word) for word in words[1:-2]), int(words[-1])))
    return (int(first.split()[1]), gates)


class Written(unittest.TestCase):
    def check_written(self, plan, text):
        check_told(self, text, written, plan)
        check_told(self, plan, read, text)

    def test_no_gates(self):
        self.check_written((0, []), "in 0")
        self.check_written((7, []), "in 7")
        self.check_written((60, []), "in 60")

    def test_gates_without_sources(self):
        self.check_written((0, [("yes", (), 1)]), "in 0\nyes by 1")
        self.check_written((10, [("no", (), 60), ("yes", (), 10)]), "in 10\nno by 60\nyes by 10")

    def test_gates_with_sources(self):
        self.check_written((1, [("keep", (0,), 1)]), "in 1\nkeep 0 by 1")
        self.check_written((2, [("both", (0, 1), 3)]), "in 2\nboth 0 1 by 3")
        self.check_written(
            (2, [("not", (4,), 5), ("pick", (3, 0, 3), 60), ("unlike", (0, 1, 2, 3, 4, 4, 3, 2, 1), 20)]),
            "in 2\nnot 4 by 5\npick 3 0 3 by 60\nunlike 0 1 2 3 4 4 3 2 1 by 20",
        )

    def test_lines_of_more_figures(self):
        gates = [("yes", (), 1)] * 199 + [("most", (9, 10, 259), 9)]
        self.check_written((60, gates), "in 60\n" + "yes by 1\n" * 199 + "most 9 10 259 by 9")

    def test_a_ring_is_written_like_any_other(self):
        self.check_written((0, [("keep", (0,), 1)]), "in 0\nkeep 0 by 1")

    def test_each_kind_of_each_number_of_sources(self):
        for kind, numbers in TAKES.items():
            for number in numbers:
                sources = (1, 0, 1, 0, 0, 1, 1, 1, 0)[:number]
                row = " ".join([kind, *map(str, sources), "by", "8"])
                with self.subTest(row):
                    self.check_written((1, [(kind, sources, 8)]), "in 1\n" + row)

    def test_each_delay(self):
        for delay in range(1, 61):
            self.check_written((0, [("no", (), delay)]), f"in 0\nno by {delay}")

    def test_what_is_written_is_read_to_the_same_plan(self):
        plans = [mixed_plan(seed, seed % 61, 1 + seed) for seed in range(80)] + small_plans()
        plans += [
            (3, right_gates(12)), row_of_gates(60, 200), row_on_later_lines(60, 200), ring_of_gates(200),
            row_of_nines(60, 200), ringless_plan(1, 60, 200),
        ]
        for plan in plans:
            self.check_written(plan, plainly_written(plan))

    def test_a_wrong_plan_is_refused(self):
        for error, plan in wrong_plans():
            with self.subTest(error):
                check_refused(self, error, written, plan)

    def test_apart(self):
        check_apart(self, written, (3, right_gates(12)))


class Read(unittest.TestCase):
    def test_a_tuple_of_a_number_and_a_list_of_tuples(self):
        check_told(self, (0, []), read, "in 0")
        check_told(self, (2, [("pick", (0, 3, 1), 60), ("no", (), 9)]), read, "in 2\npick 0 3 1 by 60\nno by 9")

    def test_each_reading_gives_new_lists(self):
        text = "in 1\nkeep 0 by 1"
        check_apart(self, read, text)
        self.assertIsNot(read(text)[1], read(text)[1])
        check_apart(self, read, "in 3")

    def test_a_number_of_nine_figures_is_one(self):
        check_refused(self, NoSize, read, "in 999999999")
        check_refused(self, NoSize, read, "in 100000000")
        check_refused(self, NoDelay, read, "in 1\nkeep 0 by 999999999")
        check_refused(self, NoLine, read, "in 1\nkeep 123456789 by 1")

    def test_a_wrong_plan_is_refused_by_what_is_wrong_first(self):
        for error, text in [
            (NoSize, "in 61"), (NoSize, "in 100\nnor by 1"), (NoSize, "in 61\nyes by 0"),
            (NoSize, "in 0" + "\nyes by 1" * 201), (NoSize, "in 60" + "\nnor by 1" * 1000),
            (NoKind, "in 0\nnor by 1"), (NoKind, "in 2\nxor 0 1 by 1"), (NoKind, "in 2\na 9 by 0"),
            (NoKind, "in 2\nin 0 by 1"), (NoKind, "in 2\nby by 1"), (NoKind, "in 2\nby 0 by 0"),
            (NoKind, "in 2\nkeepkeep 0 by 1"), (NoKind, "in 2\n" + "yes" * 5000 + " by 1"),
            (NoSources, "in 2\nkeep by 1"), (NoSources, "in 2\nkeep 0 1 by 1"), (NoSources, "in 2\nyes 0 by 1"),
            (NoSources, "in 2\nboth 0 by 1"), (NoSources, "in 2\nunlike 0 0 0 0 0 0 0 0 0 0 by 1"),
            (NoSources, "in 2\nmost 0 9 by 0"), (NoSources, "in 2\nunlike" + " 0" * 3000 + " by 1"),
            (NoLine, "in 2\nkeep 3 by 1"), (NoLine, "in 2\nboth 0 3 by 0"), (NoLine, "in 0\nnot 1 by 1"),
            (NoDelay, "in 2\nkeep 0 by 0"), (NoDelay, "in 2\nkeep 2 by 61"), (NoDelay, "in 0\nyes by 100"),
            (NoDelay, "in 2\nkeep 0 by 0\nnor by 1"), (NoKind, "in 2\nnor by 1\nkeep 0 by 0"),
        ]:
            with self.subTest(text[:40]):
                check_refused(self, error, read, text)

    def test_texts_of_wrong_plans(self):
        for error, plan in wrong_plans():
            text = plainly_written(plan)
            with self.subTest(text[:60]):
                check_refused(self, error if FORM.fullmatch(text) else NoText, read, text)

    def test_wrong_gates_of_each_class_are_among_these_texts(self):
        told = {error for error, plan in wrong_plans() if FORM.fullmatch(plainly_written(plan))}
        self.assertEqual(told, {NoSize, NoKind, NoSources, NoLine, NoDelay})
        self.assertEqual({error for error, _ in WRONG_GATES + TWICE_WRONG_GATES}, told - {NoSize})


class NotOfThisForm(unittest.TestCase):
    def check_no_text(self, *texts):
        for text in texts:
            with self.subTest(text[:40]):
                self.assertIsNone(FORM.fullmatch(text))
                check_refused(self, NoText, read, text)

    def test_an_empty_text_and_empty_rows(self):
        self.check_no_text(
            "", " ", "\n", "\t", "\n\n", "\nin 1", "in 1\n\nyes by 1", "in 1\n\n", " \nin 1", "in 1\n ",
            "in 1\nyes by 1\n\nno by 1", "in 1\n\t",
        )

    def test_a_line_feed_at_the_end(self):
        self.check_no_text("in 1\n", "in 0\nyes by 1\n", "in 1\nkeep 0 by 1\n\n")

    def test_another_first_row(self):
        self.check_no_text(
            "yes by 1", "keep 0 by 1\nin 1", "in", "in ", "in x", "in in", "in 1 1", "in 1 by 1", "in by 1",
            "in by", "1", "1 in", "In 1", "IN 1", "i 1", "inn 1", "in1", "out 1", "by 1", "in one",
            "keep by 1", "in 1,", "in 1;", "in 1.0", "in 1_0", "in 0x1", "in ''", "in 1\\n",
        )

    def test_a_row_that_is_none_such(self):
        rows = [
            "yes", "yes by", "by", "by 1", "yes 1", "keep 0", "keep 0 by", "keep by 0 1", "keep 0 by 1 1",
            "keep 0 by by", "keep 0 1", "keep x by 1", "keep 0 by x", "keep 0, 0 by 1", "keep 0 in 1",
            "keep 0 BY 1", "keep 0 By 1", "keep 0 bye 1", "keep 0 b 1", "0 keep by 1", "0 by 1", "in 1",
            "keep 0 by 1 by 1", "yes by by 1", "yes by 1 by", "keep keep by 1", "keep keep 0 by 1",
            "keep 0by 1", "keep0 by 1", "keep 0 by1", "keepby 1", "keep 0 0x0 by 1", "keep 0.0 by 1",
            "keep 0 by 1.", "keep 0 by 1_0", "keep 1e1 by 1", "#keep 0 by 1", "keep 0 by 1 # why",
            "keep -0 by 1", "keep (0) by 1",
        ]
        for row in rows:
            self.check_no_text(f"in 1\n{row}", f"in 1\nyes by 1\n{row}", f"in 1\n{row}\nyes by 1")

    def test_a_kind_of_other_signs(self):
        for kind in [
            "Keep", "KEEP", "keeP", "kEep", "keep1", "1keep", "ke_ep", "ke-ep", "_", "-", "keep.", "k'", "~",
            "k~", "@", "`", "{", "[", "0", "12", "\"keep\"",
        ]:
            self.check_no_text(f"in 1\n{kind} 0 by 1", f"in 1\n{kind} by 1")

    def test_another_blank(self):
        for text in ["in 1", "in 2\nkeep 0 by 1", "in 2\nyes by 1\nboth 0 1 by 3\nno by 60"]:
            read(text)
            for at in range(len(text) + 1):
                # Between two words and at either end of a row one more blank or tab is too many.
                if at == len(text) or text[at] in " \n" or text[at - 1:at] in (" ", "\n", ""):
                    for blank in (" ", "\t", "  ", " \t"):
                        self.check_no_text(text[:at] + blank + text[at:])
                if text[at:at + 1] == " ":
                    for other in ("\t", "", "\n", "  ", "_", ","):
                        self.check_no_text(text[:at] + other + text[at + 1:])

    def test_a_number_of_over_nine_figures(self):
        for number in ("1000000000", "9999999999", "1234567890", "1" * 20, "9" * 5000):
            self.check_no_text(
                f"in {number}", f"in 1\nkeep {number} by 1", f"in 1\nkeep 0 by {number}",
                f"in 1\nboth 0 {number} by 1", f"in {number}\nyes by 1",
            )

    def test_a_sign_or_a_nought_ahead(self):
        for number in (
            "-1", "+1", "-0", "+0", "--1", "00", "01", "001", "007", "000000000", "010", "0000000001", "- 1",
            "+ 1", "0 0x", "0" * 5000, "-", "+", "1-", "1+",
        ):
            self.check_no_text(
                f"in {number}", f"in 2\nkeep {number} by 1", f"in 2\nkeep 0 by {number}",
                f"in 2\nboth 0 {number} by 1", f"in 2\nboth {number} 0 by 1",
            )

    def test_it_is_refused_ahead_of_a_wrong_plan(self):
        self.check_no_text(
            "in 61\n", "in 61\nyes", "in 999999999\nyes by 01", "in 2\nnor by 1\n", "in 2\nnor by 1\nyes by -1",
            "in 2\nkeep 9 by 1\nyes by", "in 2\nkeep 0 by 0\nYes by 1", "in 2\nkeep by 1\nyes  by 1",
            "in 0" + "\nyes by 1" * 201 + "\n", "in 0" + "\nyes by 1" * 300 + "\nyes",
            "in 2\nnor 01 by 1", "in 2\nkeep 9 9 by 01", "in 2\nkeep 9 by +1",
        )

    def test_each_text_with_one_sign_other_than_it_was(self):
        text = "in 12\nno by 9\nmost 0 10 9 by 60\nnot 1 by 5"
        signs = " \n\t019abiny-+_.,~AZ"
        texts = [text[:at] + text[at + 1:] for at in range(len(text))]
        for at in range(len(text) + 1):
            texts += [text[:at] + sign + text[at:] for sign in signs]
            texts += [text[:at] + sign + text[at + 1:] for sign in signs]
        for other in sorted(set(texts)):
            self.check_any(other)

    def check_any(self, text):
        """The text is read, or refused, just as its form and then its plan tell."""
        if FORM.fullmatch(text) is None:
            check_refused(self, NoText, read, text)
            return
        plan = plainly_read(text)
        try:
            checked(plan)
        except (NoSize, NoKind, NoSources, NoLine, NoDelay) as why:
            check_refused(self, type(why), read, text)
        else:
            check_told(self, plan, read, text)

    def test_words_in_any_order(self):
        words = ["in", "keep", "by", "0", "1", "x"]
        rows = [[]]
        for _ in range(4):
            rows += [row + [word] for row in rows for word in words]
        for row in {" ".join(row) for row in rows}:
            self.check_any(row)
            self.check_any("in 1\n" + row)


if __name__ == "__main__":
    unittest.main()

"""Point 4: the kinds, how many sources they take, and what they answer."""

import unittest
from itertools import product

from signalgraph.errors import NoKind, NoSources
from signalgraph.gates import answer, wants
from tests.helper import TAKES, check_refused, words_that_are_no_kind, wrong_numbers

# What the kinds of few sources answer, row by row, as point 4 tells it.
TOLD = {
    "yes": [([], True)],
    "no": [([], False)],
    "keep": [([True], True), ([False], False)],
    "not": [([True], False), ([False], True)],
    "pick": [
        ([True, True, True], True),
        ([True, True, False], True),
        ([True, False, True], False),
        ([True, False, False], False),
        ([False, True, True], True),
        ([False, True, False], False),
        ([False, False, True], True),
        ([False, False, False], False),
    ],
    "most": [
        ([True, True, True], True),
        ([True, True, False], True),
        ([True, False, True], True),
        ([True, False, False], False),
        ([False, True, True], True),
        ([False, True, False], False),
        ([False, False, True], False),
        ([False, False, False], False),
    ],
}


class Wants(unittest.TestCase):
    def test_the_least_and_the_greatest_number_of_each_kind(self):
        told = {
            "yes": (0, 0), "no": (0, 0), "keep": (1, 1), "not": (1, 1), "both": (2, 9),
            "either": (2, 9), "unlike": (2, 9), "pick": (3, 3), "most": (3, 3),
        }
        for kind, numbers in told.items():
            with self.subTest(kind):
                self.assertEqual(wants(kind), numbers)
                self.assertIs(type(wants(kind)), tuple)
                self.assertEqual([type(number) for number in wants(kind)], [int, int])

    def test_a_word_that_is_no_kind_is_refused(self):
        for word in words_that_are_no_kind():
            with self.subTest(word):
                check_refused(self, NoKind, wants, word)


class Answer(unittest.TestCase):
    def check_answer(self, kind, row, told):
        with self.subTest((kind, row)):
            given = list(row)
            self.assertIs(answer(kind, given), told)
            self.assertEqual(given, list(row))

    def test_the_kinds_of_few_sources(self):
        for kind, rows in TOLD.items():
            self.assertEqual(len(rows), 2 ** TAKES[kind][0])
            for row, told in rows:
                self.check_answer(kind, row, told)

    def test_two_sources(self):
        for left, right, both, either, unlike in [
            (False, False, False, False, False),
            (False, True, False, True, True),
            (True, False, False, True, True),
            (True, True, True, True, False),
        ]:
            self.check_answer("both", [left, right], both)
            self.check_answer("either", [left, right], either)
            self.check_answer("unlike", [left, right], unlike)

    def test_all_rows_of_two_to_nine_sources(self):
        for many in range(2, 10):
            for row in product([True, False], repeat=many):
                trues = len([value for value in row if value])
                self.check_answer("both", row, trues == many)
                self.check_answer("either", row, trues > 0)
                self.check_answer("unlike", row, trues in (1, 3, 5, 7, 9))

    def test_all_alike(self):
        for many in range(2, 10):
            self.check_answer("both", [True] * many, True)
            self.check_answer("both", [False] * many, False)
            self.check_answer("either", [True] * many, True)
            self.check_answer("either", [False] * many, False)
            self.check_answer("unlike", [True] * many, many in (3, 5, 7, 9))
            self.check_answer("unlike", [False] * many, False)

    def test_all_but_one_alike_at_each_place(self):
        for many in range(2, 10):
            for place in range(many):
                one_true = [at == place for at in range(many)]
                one_false = [at != place for at in range(many)]
                self.check_answer("both", one_true, False)
                self.check_answer("both", one_false, False)
                self.check_answer("either", one_true, True)
                self.check_answer("either", one_false, True)
                self.check_answer("unlike", one_true, True)
                self.check_answer("unlike", one_false, many in (2, 4, 6, 8))

    def test_another_number_of_sources_is_refused(self):
        for kind in TAKES:
            for number in wrong_numbers(kind):
                for given in ([True] * number, [False] * number):
                    with self.subTest((kind, number, given[:1])):
                        check_refused(self, NoSources, answer, kind, given)

    def test_a_word_that_is_no_kind_is_refused(self):
        for word in words_that_are_no_kind():
            for number in (0, 1, 2, 3):
                with self.subTest((word, number)):
                    check_refused(self, NoKind, answer, word, [True] * number)

    def test_no_kind_comes_ahead_of_no_sources(self):
        for word in ("", "nor", "Yes", "keep "):
            for number in (0, 1, 10, 11, 100):
                with self.subTest((word, number)):
                    check_refused(self, NoKind, answer, word, [False] * number)

    def test_what_was_given_is_not_kept(self):
        for kind, before, after in [
            ("keep", [True], [False]), ("not", [False], [True]), ("both", [True, True], [True, False]),
            ("either", [False, True], [False, False]), ("unlike", [True, False], [True, True]),
            ("pick", [True, True, False], [False, True, False]),
            ("most", [True, True, False], [True, False, False]),
        ]:
            with self.subTest(kind):
                given = list(before)
                self.assertIs(answer(kind, given), True)
                given[:] = after
                self.assertIs(answer(kind, given), False)
                self.assertEqual(given, after)
                self.assertIs(answer(kind, list(before)), True)


if __name__ == "__main__":
    unittest.main()

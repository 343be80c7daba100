"""Errors of texts of conditions (points 12 and 13)."""

import itertools
import unittest

from soonsettled.conditions import parse_condition, print_condition
from tests import grammar
from tests.cases import TextErrorCase
from tests.samples import LOOKS


class ConditionErrorsTest(TextErrorCase):

    read = staticmethod(parse_condition)

    def test_unknown_character(self):
        self.check_all("unknown character", [
            ("All", 0), ("is A", 3), ("all&all", 3), ("all; all", 3), ("is a1", 4), (" \n=", 2), ("is a or is b.", 12),
            ("not|all", 3), ("all*", 3), ("is a_b", 4), ("~", 0), ("(all]", 4), ("is a\n\n, all", 6), ("all?", 3),
        ])

    def test_unexpected_token(self):
        self.check_all("unexpected token", [
            (")", 0), ("and", 0), ("or all", 0), ("a", 0), ("  is a a", 7), ("all all", 4), ("all none", 4),
            ("all not", 4),
            ("all is a", 4), ("is (a)", 3), ("is )", 3), ("()", 1), ("( )", 2), ("all()", 3), ("all(all)", 3),
            ("(all)(all)", 5), ("(all) is a", 6), ("all)", 3), ("(all))", 5), ("all and and all", 8), ("all or or", 7),
            ("all and or all", 8), ("all or and", 7), ("not and all", 4), ("child or", 6), ("not )", 4), ("(not)", 4),
            ("all and )", 8), ("(all and)", 8), ("(or all)", 1), ("later b", 6), ("is a is b", 5), ("is is is", 6),
            ("not is a child all", 9), ("is a later is b", 5), ("child all below all", 10), ("is all none", 7),
        ])

    def test_a_word_of_the_grammar_must_stand_where_a_factor_begins(self):
        for word in ("a", "al", "alls", "every", "isa", "nota", "nonee", "i", "childs", "abcdefghi", "andall", "x"):
            for before in ("", "not ", "child ", "later not ", "all and ", "is a or ", "(", "not (all or "):
                self.check(before + word, len(before), "unexpected token")
                self.check(before + word + " #", len(before + word) + 1, "unknown character")

    def test_words_behind_a_factor(self):
        for word in ("a", "an", "ands", "orr", "abcdefghi", "x"):
            for before in ("all ", "is a ", "(all) ", "not none ", "(is a "):
                self.check(before + word + " all", len(before), "unexpected token")

    def test_long_names(self):
        self.assertEqual(parse_condition("is abcdefgh"), ("is", "abcdefgh"))
        self.check_all("unexpected token", [
            ("is abcdefghi", 3), ("is a or is abcdefghi", 11), ("(is abcdefghi)", 4), ("not is abcdefghijk and all", 7),
            ("is " + "a" * 300, 3),
        ])

    def test_unexpected_end(self):
        self.check_all("unexpected end", [
            ("", 0), (" ", 1), ("     ", 5), ("\n", 1), (" \n ", 3), ("is", 2), ("is ", 3), ("not", 3), ("not \n", 5),
            ("child", 5), ("(", 1), ("((", 2), ("(all", 4), ("((all)", 6), ("(all and", 8), ("all and", 7),
            ("all or ", 7),
            ("is a and is", 11), ("not is", 6), ("not (", 5), ("(is a or is b", 13), ("later not", 9), ("is is or", 8),
            ("is and and", 10),
        ])
        for word in ("not",) + LOOKS:
            self.check(word, len(word), "unexpected end")

    def test_twelve_tuples_and_thirteen(self):
        self.assertEqual(parse_condition("not " * 11 + "all")[0], "not")
        self.check("not " * 12 + "all", 0, "too many parts")
        self.assertEqual(len(parse_condition(" or ".join(["all"] * 11))[1]), 11)
        self.check(" \n" + " or ".join(["all"] * 12), 2, "too many parts")
        self.assertEqual(len(parse_condition(" and ".join(["is a"] * 11))[1]), 11)
        self.check(" and ".join(["is a"] * 12), 0, "too many parts")
        self.check("  ((" + " and ".join(["is a"] * 12) + "))", 2, "too many parts")
        self.check("not " * 490 + "all", 0, "too many parts")
        self.check(" or ".join(["all"] * 280), 0, "too many parts")

    def test_joined_ones_are_counted_once(self):
        # One and with eleven in it, whatever parentheses it has; a second and would be the thirteenth tuple.
        text = "all and (all and (all and (all and all))) and ((all and all) and (all and all)) and (all and all)"
        self.assertEqual(parse_condition(text), ("and", (("all",),) * 11))
        self.check(text.replace("(all and all)))", "(all and all and all)))"), 0, "too many parts")
        text = "(all and none) or (all and none) or (all and none) or all or all"
        self.assertEqual(len(grammar.kinds_of(parse_condition(text))), 12)
        self.check(text + " or all", 0, "too many parts")

    def test_parentheses_are_no_parts(self):
        text = "(" * 50 + "not " * 11 + "((all))" + ")" * 50
        self.assertEqual(len(grammar.kinds_of(parse_condition(text))), 12)

    def test_four_looks_and_five(self):
        for look in LOOKS:
            self.assertEqual(parse_condition(f"{look} " * 4 + "all")[0], look)
            self.check(f" {look} " * 5 + "all", 1, "too many looks")
            self.assertEqual(len(parse_condition(" or ".join([f"{look} all"] * 4))[1]), 4)
            self.check(" or ".join([f"{look} all"] * 5), 0, "too many looks")
        for five in itertools.combinations(LOOKS, 5):
            self.assertEqual(parse_condition(" ".join(five[:4]) + " is a")[0], five[0])
            self.check("not (" + " ".join(five) + " is a)", 0, "too many looks")

    def test_names_are_no_looks(self):
        text = "is child and is below and is above and is later and is parent and is earlier"
        self.assertEqual(len(parse_condition(text)[1]), 6)

    def test_four_looks_in_twelve_tuples(self):
        text = "child below parent above " + "not " * 7 + "all"
        self.assertEqual(len(grammar.kinds_of(parse_condition(text))), 12)
        self.check("not " + text, 0, "too many parts")
        self.check(text.replace("not ", "later ", 1), 0, "too many looks")

    def test_first_error_of_the_list(self):
        for text, place, message in [
            ("all all #", 8, "unknown character"),
            (") A", 2, "unknown character"),
            ("is abcdefghi ! $", 13, "unknown character"),
            ("(all #", 5, "unknown character"),
            ("all and )(", 8, "unexpected token"),
            ("is abcdefghi and", 3, "unexpected token"),
            ("(all all", 5, "unexpected token"),
        ]:
            self.check(text, place, message)

    def test_errors_from_the_last_to_the_first_of_the_list(self):
        # Each text has all errors of those before it, and one more that counts before them.
        text = " " + "later " * 5 + "all"
        self.check(text, 1, "too many looks")
        text = " " + "later " * 5 + "not " * 7 + "all"
        self.check(text, 1, "too many parts")
        text = text + " or ("
        self.check(text, len(text), "unexpected end")
        text = text + ") all"
        self.check(text, len(text) - 5, "unexpected token")
        text = text + " - )"
        self.check(text, len(text) - 3, "unknown character")

    def test_an_error_changes_nothing(self):
        self.check_unchanged("is a and later all", ["is a and later", "is a and (later all", "later " * 5 + "all", ")"])


class ChangedTokensTest(TextErrorCase):

    read = staticmethod(parse_condition)

    def compare(self, text):
        condition = self.check_against(text, grammar.condition_error(text))
        if condition:
            self.assertEqual(condition, grammar.condition_of(text), text)
            self.assertEqual(parse_condition(print_condition(condition)), condition)

    def test_one_change(self):
        pool = list(grammar.CONDITION_WORDS) + ["(", ")", "a", "abcdefgh", "abcdefghi", "Q", "="]
        for text in [
            "is a and (later is b and not child all)",
            "not (is a or is not) and (below (all and none) or is and)",
            "((is a or is b) and all or none) and is a",
            "child below parent above " + "not " * 7 + "all",
            " or ".join(["all"] * 11),
            "later is a and (earlier is b or above (is is)) or child none",
        ]:
            self.compare(text)
            for other in grammar.changed(text, pool):
                self.compare(other)

    def test_two_changes(self):
        pool = ["(", ")", "and", "is", "not", "all"]
        for text in ["is a and (is b or all)", "not (all or later is is)"]:
            for other in grammar.changed(text, pool):
                for third in grammar.changed(other, pool):
                    self.compare(third)

    def test_all_short_texts(self):
        for many in range(6):
            for words in itertools.product(["is", "all", "and", "or", "not", "(", ")"], repeat=many):
                self.compare(" ".join(words))


if __name__ == "__main__":
    unittest.main()

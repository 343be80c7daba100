"""Conditions are read and printed (points 11 and 12)."""

import copy
import unittest

from soonsettled.conditions import parse_condition, print_condition
from tests import grammar
from tests.cases import without_a_pair
from tests.samples import LOOKS, small_conditions

ALL = ("all",)
NONE = ("none",)
A = ("is", "a")
B = ("is", "b")
PREFIXES = ("not",) + LOOKS


def both(*conditions):
    return ("and", conditions)


def either(*conditions):
    return ("or", conditions)


def no(condition):
    return ("not", condition)


# A condition and its canonical text.
CANONICAL = [
    (ALL, "all"), (NONE, "none"), (A, "is a"), (("is", "abcdefgh"), "is abcdefgh"),
    (no(A), "not is a"), (no(no(ALL)), "not not all"),
    (("child", A), "child is a"), (("below", A), "below is a"), (("parent", A), "parent is a"),
    (("above", A), "above is a"), (("earlier", A), "earlier is a"), (("later", A), "later is a"),
    (both(A, B), "is a and is b"), (either(A, B), "is a or is b"), (both(A, ALL, B), "is a and all and is b"),
    (either(A, NONE, B), "is a or none or is b"),
    (either(both(A, B), ALL), "is a and is b or all"), (either(ALL, both(A, B)), "all or is a and is b"),
    (either(both(A, B), both(B, A)), "is a and is b or is b and is a"),
    (both(either(A, B), ALL), "(is a or is b) and all"), (both(ALL, either(A, B)), "all and (is a or is b)"),
    (both(either(A, B), either(B, A)), "(is a or is b) and (is b or is a)"),
    (both(ALL, either(A, B), NONE), "all and (is a or is b) and none"),
    (both(either(both(either(A, B), ALL), NONE), A), "((is a or is b) and all or none) and is a"),
    (both(A, either(B, both(ALL, either(A, B)))), "is a and (is b or all and (is a or is b))"),
    (no(both(A, B)), "not (is a and is b)"), (no(either(A, B)), "not (is a or is b)"),
    (both(no(A), B), "not is a and is b"), (either(no(A), B), "not is a or is b"),
    (both(A, no(B)), "is a and not is b"),
    (("child", no(both(A, ("later", either(A, B))))), "child not (is a and later (is a or is b))"),
    (("below", ("above", either(both(A, B), ALL))), "below above (is a and is b or all)"),
    (both(("child", both(A, B)), ("child", A), B), "child (is a and is b) and child is a and is b"),
    (no(both(either(A, B), ALL)), "not ((is a or is b) and all)"),
    (("is", "is"), "is is"), (both(("is", "and"), ("is", "or")), "is and and is or"), (no(("is", "not")), "not is not"),
]

# Texts that are not canonical, and the condition.
OTHERS = [
    ("(all)", ALL), ("(((is a)))", A), ("( none\n)", NONE), ("\n is \n\n a ", A),
    ("(is a)and(is b)", both(A, B)), ("not(all)", no(ALL)), ("not((is a))", no(A)), ("(not is a)", no(A)),
    ("not (not all)", no(no(ALL))), ("child(below(is a))", ("child", ("below", A))),
    ("is a and (is b and all)", both(A, B, ALL)), ("(is a and is b) and all", both(A, B, ALL)),
    ("is a and (is b) and all", both(A, B, ALL)), ("((is a and (is b and (all))))", both(A, B, ALL)),
    ("(is a and is b) and (all and none)", both(A, B, ALL, NONE)),
    ("is a or (is b or all)", either(A, B, ALL)), ("(is a or is b) or all", either(A, B, ALL)),
    ("((((is a) or is b) or all) or none)", either(A, B, ALL, NONE)),
    ("(is a or is b) or (all or none)", either(A, B, ALL, NONE)),
    ("(is a and is b) or all", either(both(A, B), ALL)), ("is a or (is b and all)", either(A, both(B, ALL))),
    ("is a and ((is b or all))", both(A, either(B, ALL))),
    ("(is a or (is b or all) and none)", either(A, both(either(B, ALL), NONE))),
    ("is a or ((is b or all) or none) and is b", either(A, both(either(B, ALL, NONE), B))),
    ("not (is a and is b) and all", both(no(both(A, B)), ALL)), ("(not (is a)) and all", both(no(A), ALL)),
    ("not (is a or is b) or all", either(no(either(A, B)), ALL)),
    ("(not is a and is b) and all", both(no(A), B, ALL)),
    ("later is a and is b", both(("later", A), B)), ("later (is a) and is b", both(("later", A), B)),
    ("later (is a and (is b and all))", ("later", both(A, B, ALL))),
    ("is is and is is", both(("is", "is"), ("is", "is"))),
]


def wrapped(condition):
    """Returns a text of a condition with parentheses round all that may have them."""
    kind = condition[0]
    if kind in ("all", "none"):
        return f"({kind})"
    if kind == "is":
        return f"(( is {condition[1]}))"
    if kind in ("and", "or"):
        return "(" + f"\n{kind} ".join([wrapped(part) for part in condition[1]]) + " )"
    return f"({kind}{wrapped(condition[1])})"


class ReadAndPrintTest(unittest.TestCase):

    def test_example_of_the_interface(self):
        self.assertEqual(
            parse_condition("is a and (later is b and not child all)"),
            ("and", (("is", "a"), ("later", ("is", "b")), ("not", ("child", ("all",))))))

    def test_canonical_texts(self):
        for condition, text in CANONICAL:
            with self.subTest(text=text):
                self.assertEqual(print_condition(condition), text)
                self.assertEqual(parse_condition(text), condition)

    def test_other_texts(self):
        for text, condition in OTHERS:
            with self.subTest(text=text):
                self.assertEqual(parse_condition(text), condition)

    def test_every_word_is_a_name_behind_is(self):
        for word in grammar.CONDITION_WORDS:
            with self.subTest(word=word):
                self.assertEqual(parse_condition(f"is {word}"), ("is", word))
                self.assertEqual(print_condition(("is", word)), f"is {word}")
                self.assertEqual(
                    parse_condition(f"not is {word} and is {word} or (is {word})"),
                    either(both(no(("is", word)), ("is", word)), ("is", word)))

    def test_names_of_one_and_of_eight_letters(self):
        self.assertEqual(parse_condition("is z"), ("is", "z"))
        self.assertEqual(parse_condition("is abcdefgh or is zyxwvuts"), either(("is", "abcdefgh"), ("is", "zyxwvuts")))

    def test_words_before_each_other(self):
        for first in PREFIXES:
            for second in PREFIXES:
                condition = (first, (second, A))
                self.assertEqual(print_condition(condition), f"{first} {second} is a")
                self.assertEqual(parse_condition(f"{first} {second} is a"), condition)
                self.assertEqual(parse_condition(f"{first}({second}(is a))"), condition)
                condition = (first, both(A, (second, either(A, B))))
                text = f"{first} (is a and {second} (is a or is b))"
                self.assertEqual(parse_condition(text), condition)
                self.assertEqual(print_condition(condition), text)

    def test_all_small_conditions(self):
        for condition in small_conditions():
            text = print_condition(condition)
            self.assertEqual(parse_condition(text), condition)
            self.assertEqual(parse_condition(wrapped(condition)), condition)
            self.assertEqual(grammar.condition_of(text), condition)

    def test_no_parenthesis_of_a_canonical_text_can_be_left_out(self):
        for condition in small_conditions():
            for text in without_a_pair(print_condition(condition)):
                self.assertNotEqual(parse_condition(text), condition, text)

    def test_canonical_spaces(self):
        for condition in small_conditions():
            text = print_condition(condition)
            self.assertNotRegex(text, r"  |\A | \Z|\n|\( | \)|[a-z]\(|\)[a-z]")

    def test_spaces_and_newlines(self):
        canonical = "not (is a or child is b) and (later (all and none) or is not)"
        condition = parse_condition(canonical)
        words = [token for token, _ in grammar.tokens(canonical)]
        for gap in (" ", "\n", "  \n \n"):
            self.assertEqual(parse_condition(gap.join(words)), condition)
            self.assertEqual(parse_condition(gap + gap.join(words) + gap), condition)
        self.assertEqual(parse_condition("not(is a or child is b)and(later(all and none)or is not)"), condition)
        self.assertEqual(print_condition(condition), canonical)

    def test_kinds_of_values(self):
        condition = parse_condition("is a and (not is b and later all)")
        self.assertIs(type(condition), tuple)
        self.assertIs(type(condition[1]), tuple)
        self.assertEqual([type(part) for part in condition[1]], [tuple] * 3)

    def test_many_parentheses(self):
        for deep in (60, 90, 400):
            self.assertEqual(parse_condition("(" * deep + "is a" + ")" * deep), A)
            self.assertEqual(parse_condition("not" + "(" * deep + "is a" + ")" * deep + "and all"), both(no(A), ALL))
            text = "(" * deep + "all or none" + ")" * deep + "or all"
            self.assertEqual(parse_condition(text), either(ALL, NONE, ALL))

    def test_conditions_beyond_the_limits_are_printed(self):
        for many in (13, 40, 400):
            condition = ALL
            for _ in range(many):
                condition = ("child", condition)
            self.assertEqual(print_condition(condition), "child " * many + "all")
            self.assertEqual(print_condition(either(*[A] * many)), " or ".join(["is a"] * many))

    def test_arguments_are_not_modified_and_calls_agree(self):
        condition = parse_condition("is a and not (is b or later all)")
        before = copy.deepcopy(condition)
        text = print_condition(condition)
        self.assertEqual(condition, before)
        self.assertEqual(print_condition(condition), text)
        self.assertEqual(parse_condition(text), before)


if __name__ == "__main__":
    unittest.main()

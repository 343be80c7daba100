"""Schemas are read and printed (points 7, 9 and 10)."""

import copy
import unittest

from soonsettled.errors import TextError
from soonsettled.schemas import parse_schema, print_schema
from tests import grammar
from tests.cases import without_a_pair
from tests.samples import EMPTY, S, T, choice, many, maybe, row, small_contents, some


def schema_of(content):
    """Returns a schema whose first rule has this content."""
    return (("s", "a", content), ("t", "b", EMPTY))


def content_in(text):
    """Returns the content that a text stands for."""
    return parse_schema("s = a(" + text + "); t = b()")[0][2]


def printed(content):
    """Returns the canonical text of a content in a rule."""
    text = print_schema(schema_of(content))
    assert text.startswith("s = a(") and text.endswith("); t = b()")
    return text[6:-10]


# A content and its canonical text in a rule.
CANONICAL = [
    (EMPTY, ""), (S, "s"),
    (many(S), "s*"), (some(S), "s+"), (maybe(S), "s?"),
    (many(EMPTY), "()*"), (some(EMPTY), "()+"), (maybe(EMPTY), "()?"),
    (many(many(S)), "(s*)*"), (maybe(some(S)), "(s+)?"), (some(maybe(S)), "(s?)+"),
    (many(maybe(some(EMPTY))), "((()+)?)*"),
    (row(S, T), "s t"), (choice(S, T), "s | t"), (row(S, T, S), "s t s"), (choice(S, T, S), "s | t | s"),
    (many(row(S, T)), "(s t)*"), (some(choice(S, T)), "(s | t)+"),
    (row(EMPTY, S), "() s"), (row(S, EMPTY), "s ()"), (row(EMPTY, EMPTY), "() ()"),
    (choice(EMPTY, S), "() | s"), (choice(S, EMPTY), "s | ()"), (choice(EMPTY, EMPTY), "() | ()"),
    (row(choice(S, T), S), "(s | t) s"), (row(S, choice(EMPTY, T)), "s (() | t)"),
    (choice(row(S, T), S), "s t | s"), (choice(S, row(EMPTY, T)), "s | () t"),
    (row(many(S), some(T), maybe(S)), "s* t+ s?"), (choice(many(S), some(T), maybe(EMPTY)), "s* | t+ | ()?"),
    (row(many(row(S, T)), T), "(s t)* t"), (choice(many(choice(S, T)), T), "(s | t)* | t"),
    (row(choice(row(S, choice(S, T)), T), many(choice(S, row(T, T)))), "(s (s | t) | t) (s | t t)*"),
    (maybe(row(choice(S, EMPTY), many(many(T)))), "((s | ()) (t*)*)?"),
]

# Texts of contents that are not canonical, and the content.
OTHERS = [
    ("()", EMPTY), ("(())", EMPTY), ("( ( \n( )))", EMPTY),
    ("(s)", S), ("((s))", S), ("(s)*", many(S)), ("((s)*)", many(S)), ("((s))+", some(S)), ("s ?", maybe(S)),
    ("(())*", many(EMPTY)), ("((()))?", maybe(EMPTY)), ("((s*))*", many(many(S))),
    ("(s t)", row(S, T)), ("(s|t)", choice(S, T)), ("((s)|((t)))", choice(S, T)),
    ("s (t s)", row(S, T, S)), ("(s t) s", row(S, T, S)), ("(s) (t) (s)", row(S, T, S)),
    ("(s t) (s t)", row(S, T, S, T)), ("s ((t (s (t))))", row(S, T, S, T)), ("((((s) t) s) t)", row(S, T, S, T)),
    ("s|(t|s)", choice(S, T, S)), ("(s|t)|s", choice(S, T, S)), ("((s|t))|((s|t))", choice(S, T, S, T)),
    ("((((s)|t)|s)|t)", choice(S, T, S, T)),
    ("(s t)|(t s)", choice(row(S, T), row(T, S))), ("((s t)) s | t", choice(row(S, T, S), T)),
    ("((s|t)) s", row(choice(S, T), S)), ("(s|t) (t|s)", row(choice(S, T), choice(T, S))),
    ("() () s", row(EMPTY, EMPTY, S)), ("(() s) ()", row(EMPTY, S, EMPTY)),
    ("((()) | (s)) | ()", choice(EMPTY, S, EMPTY)),
    ("(s t)* (s t)", row(many(row(S, T)), S, T)), ("(s|t)+|(s|t)", choice(some(choice(S, T)), S, T)),
    ("(s|(t|s) t|(s))", choice(S, row(choice(T, S), T), S)),
    ("s(t)", row(S, T)), ("s()", row(S, EMPTY)), ("(s)t", row(S, T)), ("s*t", row(many(S), T)),
    ("s*(t)", row(many(S), T)),
    ("()()", row(EMPTY, EMPTY)), ("()|()", choice(EMPTY, EMPTY)), ("(s?|t)s", row(choice(maybe(S), T), S)),
]


def wrapped(content):
    """Returns a text of a content with parentheses round all that may have them."""
    kind = content[0]
    if kind == "empty":
        return "(\n)"
    if kind == "type":
        return f"({content[1]})"
    if kind in ("row", "choice"):
        return "( " + {"row": "", "choice": "\n|"}[kind].join([wrapped(c) for c in content[1]]) + " )"
    return "((" + wrapped(content[1]) + ")" + {"many": "*", "some": "+", "maybe": " ?"}[kind] + ")"


class ReadAndPrintTest(unittest.TestCase):

    def test_examples_of_the_interface(self):
        self.assertEqual(
            parse_schema("s=list(i* | (i e)); i=item(); e = item(i?)"),
            (("s", "list", ("choice", (("many", ("type", "i")), ("row", (("type", "i"), ("type", "e")))))),
             ("i", "item", ("empty",)), ("e", "item", ("maybe", ("type", "i")))))
        self.assertEqual(print_schema(parse_schema("s=a((s|()) s) ")), "s = a((s | ()) s)")

    def test_canonical_texts(self):
        for content, text in CANONICAL:
            with self.subTest(text=text):
                self.assertEqual(printed(content), text)
                self.assertEqual(content_in(text), content)

    def test_other_texts(self):
        for text, content in OTHERS:
            with self.subTest(text=text):
                self.assertEqual(content_in(text), content)

    def test_all_small_contents(self):
        for content in small_contents():
            text = printed(content)
            self.assertEqual(content_in(text), content)
            self.assertEqual(content_in(wrapped(content)), content)
            self.assertEqual(content_in("(" + wrapped(content) + ")"), content)

    def test_no_parenthesis_of_a_canonical_text_can_be_left_out(self):
        for content in small_contents()[:1500]:
            for text in without_a_pair(printed(content)):
                try:
                    self.assertNotEqual(content_in(text), content, text)
                except TextError:
                    pass

    def test_spaces_and_newlines(self):
        canonical = "s = list((s | t)* () t?); t = item((s+)? | ())"
        schema = parse_schema(canonical)
        words = [token for token, _ in grammar.tokens(canonical)]
        for gap in (" ", "\n", "  \n \n"):
            self.assertEqual(parse_schema(gap.join(words)), schema)
            self.assertEqual(parse_schema(gap + gap.join(words) + gap), schema)
        self.assertEqual(parse_schema("s=list((s|t)*()t?);t=item((s+)?|())"), schema)
        self.assertEqual(print_schema(schema), canonical)

    def test_rules(self):
        self.assertEqual(print_schema(parse_schema("s=a();t=b(t)")), "s = a(); t = b(t)")
        self.assertEqual(parse_schema("s=a();t=b(t);u=a(())"), (("s", "a", EMPTY), ("t", "b", T), ("u", "a", EMPTY)))
        self.assertEqual(print_schema(parse_schema("s=a((()))")), "s = a()")
        self.assertEqual(print_schema((("s", "s", S),)), "s = s(s)")

    def test_rules_keep_their_order(self):
        self.assertEqual(print_schema(parse_schema("z=a(y); y=b(); x=c(z)")), "z = a(y); y = b(); x = c(z)")

    def test_a_type_may_be_used_before_its_rule(self):
        self.assertEqual(parse_schema("s=a(t);t=b()"), (("s", "a", T), ("t", "b", EMPTY)))

    def test_several_types_with_one_name(self):
        self.assertEqual(parse_schema("s=a(t);t=a()"), (("s", "a", T), ("t", "a", EMPTY)))

    def test_names_of_one_and_of_eight_letters(self):
        text = "abcdefgh = ijklmnop(abcdefgh*); x = y(abcdefgh x)"
        self.assertEqual(print_schema(parse_schema(text)), text)
        self.assertEqual(parse_schema(text)[0], ("abcdefgh", "ijklmnop", many(("type", "abcdefgh"))))

    def test_kinds_of_values(self):
        schema = parse_schema("s=a(s t | (t)*); t=b()")
        self.assertEqual([type(x) for x in (schema, schema[0], schema[0][2], schema[0][2][1])], [tuple] * 4)
        self.assertIs(type(schema[0][2][1][0][1]), tuple)

    def test_many_parentheses(self):
        for deep in (60, 90, 400):
            self.assertEqual(content_in("(" * deep + "s" + ")" * deep), S)
            self.assertEqual(content_in("(" * deep + ")" * deep), EMPTY)

    def test_deep_contents(self):
        for deep in (60, 90, 150):
            text = "(" * deep + "s" + "*)" * deep + "?"
            content = S
            for _ in range(deep):
                content = many(content)
            self.assertEqual(content_in(text), maybe(content))
            self.assertEqual(printed(maybe(content)), text)
            text = "(" * deep + "s" + " | ()) ()" * deep
            self.assertEqual(printed(content_in(text)), text)

    def test_arguments_are_not_modified_and_calls_agree(self):
        schema = parse_schema("s=a(s t | (t)*); t=b()")
        before = copy.deepcopy(schema)
        first = print_schema(schema)
        self.assertEqual(schema, before)
        self.assertEqual(print_schema(schema), first)
        self.assertEqual(parse_schema(first), before)


if __name__ == "__main__":
    unittest.main()

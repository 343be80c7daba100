"""Errors of texts of schemas (points 9, 10 and 13)."""

import unittest

from soonsettled.schemas import parse_schema, print_schema
from tests import grammar
from tests.cases import TextErrorCase


def rules(many):
    """Returns the text of a schema with that many rules."""
    return ";".join(f"{chr(97 + k)}=n()" for k in range(many))


class SchemaErrorsTest(TextErrorCase):

    read = staticmethod(parse_schema)

    def test_unknown_character(self):
        self.check_all("unknown character", [
            ("s=a(S)", 4), ("S=a()", 0), ("s=a()#", 5), (" \n~", 2), ("s:a()", 1), ("s=a(s,s)", 5), ("s1=a()", 1),
            ("s=a(s s&)", 7), ("sS=a()", 1), ("s=a{}", 3), ("s=a(s{2})", 5),
        ])

    def test_unexpected_token(self):
        self.check_all("unexpected token", [
            ("=", 0), ("(", 0), (";", 0), ("s s", 2), ("s(", 1), ("s==a()", 2), ("s=()", 2), ("s=a=", 3), ("s=a a", 4),
            ("s=a)", 3), ("s=a()s", 5), ("s=a())", 5), ("s=a()()", 5), ("s=a()*", 5), ("s=a();;", 6), ("s=a();=", 6),
            ("s=a(|s)", 4), ("s=a(s|)", 6), ("s=a(s||s)", 6), ("s=a((|s))", 5), ("s=a(*)", 4), ("s=a(s**)", 6),
            ("s=a(s*+)", 6), ("s=a(()??)", 7), ("s=a(s|*)", 6), ("s=a(s;)", 5), ("s=a(s=s)", 5), ("s=a((s)=", 7),
            ("s=a()|", 5), ("s=a()=", 5), ("s=a(+s)", 4), ("  s=a( s | | s)", 11),
        ])

    def test_long_words(self):
        self.check_all("unexpected token", [
            ("abcdefghi=a()", 0), ("s=abcdefghi()", 2), ("s=a(abcdefghi)", 4), ("s=a(s abcdefghi*)", 6),
            ("s=a();abcdefghi=a()", 6), ("abcdefghi", 0), ("s abcdefghi", 2), ("s=a()abcdefghi", 5),
        ])

    def test_unexpected_end(self):
        self.check_all("unexpected end", [
            ("", 0), (" ", 1), (" \n ", 3), ("s", 1), ("s=", 2), ("s=a ", 4), ("s=a(", 4), ("s=a(\n", 5), ("s=a(s", 5),
            ("s=a(s*", 6), ("s=a(s|", 6), ("s=a((", 5), ("s=a((s)", 7), ("s=a(()", 6), ("s=a();", 6), ("s=a(); ", 7),
            ("s=a();t", 7),
        ])

    def test_type_twice(self):
        self.check_all("type twice", [
            ("s=a();s=a()", 6), ("s=a();t=b();t=b()", 12), ("s=a();t=b();s=b();t=c()", 12), (" s=a(s); \n s=b(s)", 11),
        ])

    def test_no_such_type(self):
        self.check_all("no such type", [
            ("s=a(t)", 4), ("s=a(a)", 4), ("s=a(s | (t u)*)", 9), ("s=a(t);t=b(u v)", 11), ("s=a((s\n)t*)", 8),
            ("s=a(ss)", 4), ("ss=a(s)", 5),
        ])

    def test_too_many_types(self):
        self.assertEqual(len(parse_schema(rules(6))), 6)
        self.check(rules(7), 0, "too many types")
        self.check(" \n" + rules(7), 2, "too many types")
        self.check(rules(12), 0, "too many types")

    def test_too_many_parts(self):
        sixteen = "s=a(" + " ".join(["s"] * 16) + ")"
        self.assertEqual(len(parse_schema(sixteen)[0][2][1]), 16)
        self.assertEqual(print_schema(parse_schema(sixteen)), "s = a(" + " ".join(["s"] * 16) + ")")
        self.check("s=a(" + " ".join(["s"] * 17) + ")", 0, "too many parts")
        self.check(" \n  s=a(" + "|".join(["(s)*"] * 17) + ")", 4, "too many parts")

    def test_parts_of_all_rules_count(self):
        text = "s=a(" + "s t " * 4 + ");t=b(" + "t|" * 7 + "{})"
        self.assertEqual(len(parse_schema(text.format("t"))), 2)
        self.check(text.format("t s"), 0, "too many parts")

    def test_empties_and_signs_are_no_parts(self):
        text = "s=a(" + "(s)* ()+ " * 16 + ")"
        self.assertEqual(len(parse_schema(text)[0][2][1]), 32)

    def test_six_rules_with_sixteen_parts(self):
        text = ";".join(f"{name}=n({'s ' * many})" for name, many in zip("stuvwx", (3, 3, 3, 3, 2, 2)))
        self.assertEqual(len(parse_schema(text)), 6)
        self.check(text + ";y=n()", 0, "too many types")
        self.check(text[:-1] + "s)", 0, "too many parts")

    def test_first_error_of_the_list(self):
        for text, place, message in [
            ("s=a()) A", 7, "unknown character"),
            ("s=a(;#", 5, "unknown character"),
            ("!=a(]", 0, "unknown character"),
            ("s=abcdefghi(;^", 13, "unknown character"),
            ("s=a(t);s=b();s", 14, "unexpected end"),
            ("s=a(t);s=b();)", 13, "unexpected token"),
            ("s=a(t);s=b()", 7, "type twice"),
            ("s=a(t);t=b();s=b(u)", 13, "type twice"),
        ]:
            self.check(text, place, message)

    def test_errors_from_the_last_to_the_first_of_the_list(self):
        # Each text has all errors of those before it, and one more that counts before them.
        parts = ";z=n(" + " ".join(["a"] * 17)
        text = " a=n()" + parts.replace("z", "b") + ")"
        self.check(text, 1, "too many parts")
        text = " " + rules(7) + parts + ")"
        self.check(text, 1, "too many types")
        text = " " + rules(7) + parts + " xx)"
        self.check(text, text.index("xx"), "no such type")
        text = text + ";a=n()"
        self.check(text, text.rindex("a=n"), "type twice")
        text = text + " ; "
        self.check(text, len(text), "unexpected end")
        text = text + "; z"
        self.check(text, len(text) - 3, "unexpected token")
        text = text + " Z a"
        self.check(text, len(text) - 3, "unknown character")

    def test_an_error_changes_nothing(self):
        self.check_unchanged("s=a(t);t=b()", ["s=a(t)", "s=a(", "s=a(t);t=b();t=b()"])


class ChangedTokensTest(TextErrorCase):

    read = staticmethod(parse_schema)

    def compare(self, text):
        schema = self.check_against(text, grammar.schema_error(text))
        if schema:
            self.assertEqual(parse_schema(print_schema(schema)), schema)

    def test_one_change(self):
        pool = list(grammar.SCHEMA_SIGNS) + ["s", "t", "x", "abcdefgh", "abcdefghi", "Q"]
        for text in [
            "s = list(i* | (i e)); i = item(); e = item(i?)",
            "s = a((s | ()) s)",
            "s = a(((t)+)? | () | (s t)*); t = b(t (() | s))",
            rules(6),
            "s = a(" + "s " * 16 + ")",
        ]:
            self.compare(text)
            for other in grammar.changed(text, pool):
                self.compare(other)

    def test_two_changes(self):
        pool = ["(", ")", "|", "s"]
        for text in ["s = a((s |()) t); t = b()", "s = a(s*)"]:
            for other in grammar.changed(text, pool):
                for third in grammar.changed(other, pool):
                    self.compare(third)


if __name__ == "__main__":
    unittest.main()

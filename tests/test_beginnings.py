"""Beginnings that are possible, and what can come next (points 4, 5, 14)."""

import copy
import unittest

from soonsettled.beginnings import next_events, possible, whole
from soonsettled.documents import read_events
from soonsettled.errors import NotPossible, SettleError
from soonsettled.schemas import parse_schema

LIST = parse_schema("s = a(t* u?); t = b(); u = c()")
# Types that have no elements, wherever they stand.
NO_DOCUMENTS = ["s = a(s)", "s = a(t+); t = b(t)", "s = a(t u); t = b(s); u = c()", "s = a(u t | t); t = b(t); u = c()"]


class BeginningCase(unittest.TestCase):

    def check(self, schema, cases):
        """Compares cases of (text of a beginning, next events, whether it is whole)."""
        if isinstance(schema, str):
            schema = parse_schema(schema)
        for text, following, is_whole in cases:
            with self.subTest(text=text):
                events = read_events(text)
                self.assertIs(possible(schema, events), True)
                self.assertEqual(next_events(schema, events), following)
                self.assertIs(whole(schema, events), is_whole)
                for event in following:
                    self.assertIs(possible(schema, events + [event]), True)

    def check_impossible(self, schema, cases):
        """Compares cases of lists of events, or texts of beginnings, that no document of the schema begins with."""
        if isinstance(schema, str):
            schema = parse_schema(schema)
        for events in cases:
            with self.subTest(events=events):
                if isinstance(events, str):
                    events = read_events(events)
                self.assertIs(possible(schema, events), False)
                for call in (next_events, whole):
                    with self.assertRaises(NotPossible) as caught:
                        call(schema, events)
                    self.assertIsInstance(caught.exception, SettleError)


class PossibleTest(BeginningCase):

    def test_example(self):
        self.assertEqual(
            next_events(parse_schema("s = a(t* u?); t = b(); u = c()"), ["a", "b", ")"]), [')', 'b', 'c'])

    def test_from_the_empty_beginning_to_the_whole(self):
        self.check(LIST, [
            ("", ["a"], False), ("a(", [")", "b", "c"], False), ("a(b(", [")"], False), ("a(b() c(", [")"], False),
            ("a(b() c()", [")"], False), ("a(b() b() c())", [], True), ("a()", [], True), ("a(c())", [], True),
        ])

    def test_impossible_beginnings(self):
        self.check_impossible(LIST, [
            "b(", "c()", "s(", "t(", "zz(", "abcdefgh(", "a(a(", "a(d(", "a(s(", "a(c() c(", "a(c() b(", "a(b(b(",
            "a(b(c()", "a(c(b() )", "b()", "a(b(b()))", "a(c() c())",
        ])

    def test_events_behind_the_end_and_an_end_at_first(self):
        self.check_impossible(LIST, [
            [")"], [")", "a"], ["a", ")", ")"], ["a", ")", "a"], ["a", ")", "b"], ["a", "b", ")", ")", "c"],
            ["a", ")", ")", ")"], [")", ")"],
        ])
        self.check_impossible("s = a(s*)", [["a", ")", "a"], ["a", ")", ")"], [")"]])

    def test_whole_documents_that_are_not_of_the_schema(self):
        schema = "s = a(t); t = b(u?); u = a()"
        self.check(schema, [("a(b())", [], True), ("a(b(a()))", [], True)])
        self.check_impossible(schema, ["a()", "b()", "b(a())", "a(b() b())", "a(a())"])

    def test_the_order_of_the_next_events(self):
        schema = "s = m((t | u | v | w | x)*); t = b(); u = ab(); v = a(); w = abc(); x = b(t?)"
        self.check(schema, [("m(", [")", "a", "ab", "abc", "b"], False), ("m(b(", [")", "b"], False)])
        self.check("s = zz(t); t = z()", [("", ["zz"], False), ("zz(", ["z"], False)])

    def test_types_that_call_themselves(self):
        schema = "s = a(s s | t?); t = b(t)"
        self.check(schema, [
            ("", ["a"], False), ("a(", [")", "a"], False), ("a(a()", ["a"], False), ("a(a() a()", [")"], False),
            ("a(a(a() a() ) a())", [], True),
        ])
        self.check_impossible(schema, ["a(b(", "a(a())", "a(a() a() a("])
        deep = "a(" * 30
        self.check("s = a(s?)", [(deep, [")", "a"], False), (deep + ")", [")"], False), (deep + ")" * 30, [], True)])

    def test_several_types_of_one_name(self):
        # Which of t, u and v the first child is turns out behind its children.
        schema = "s = a(t c | u d | v); t = b(c?); u = b(c c?); v = b(c c c); c = c(); d = d()"
        self.check(schema, [
            ("a(b(", [")", "c"], False), ("a(b()", ["c"], False), ("a(b(c()", [")", "c"], False),
            ("a(b(c())", ["c", "d"], False), ("a(b(c() c()", [")", "c"], False), ("a(b(c() c())", ["d"], False),
            ("a(b(c() c() c()", [")"], False), ("a(b(c() c() c())", [")"], False), ("a(b(c()) d()", [")"], False),
            ("a(b() c())", [], True), ("a(b(c() c() c()))", [], True),
        ])
        self.check_impossible(schema, ["a(b())", "a(b() d(", "a(b(c() c()) c(", "a(b(c() c() c()) c(", "a(b(d("])

    def test_an_element_of_several_types_at_once(self):
        schema = "s = a(t t u); t = b(u?); u = b(t?)"
        self.check(schema, [
            ("a(b()", ["b"], False), ("a(b(b(b(", [")", "b"], False), ("a(b() b()", ["b"], False),
            ("a(b() b() b()", [")"], False),
        ])
        self.check_impossible(schema, ["a(b() b())", "a(b() b() b() b(", "a(b(b() b("])


class DeadTypesTest(BeginningCase):
    """Types that no element has; t is such a type in all of these."""

    def test_in_a_choice(self):
        self.check("s = a(t | u); t = b(t); u = c()", [("a(", ["c"], False), ("a(c()", [")"], False)])
        self.check_impossible("s = a(t | u); t = b(t); u = c()", ["a(b(", "a()"])
        self.check("s = a(t | u | ()); t = b(t); u = c()", [("a(", [")", "c"], False)])

    def test_in_a_row(self):
        schema = "s = a(u t | v u | u); t = b(t); u = c(); v = d()"
        self.check(schema, [("a(", ["c", "d"], False), ("a(c()", [")"], False), ("a(d()", ["c"], False)])
        self.check_impossible(schema, ["a(c() b(", "a(c() c(", "a(d())"])
        # Nothing can follow the u of the row, so not even the u may stand there.
        self.check_impossible("s = a(u t | v); t = b(t); u = c(); v = d()", ["a(c(", "a(c()"])

    def test_under_many_some_and_maybe(self):
        for sign, following in [("*", [")", "c"]), ("?", [")", "c"]), ("+", ["c"])]:
            schema = f"s = a(t{sign} | u); t = b(t); u = c()"
            self.check(schema, [("a(", following, False)])
            self.check_impossible(schema, ["a(b(", "a(b(b("])
        self.check("s = a(t* u t?); t = b(t); u = c()", [("a(", ["c"], False), ("a(c()", [")"], False)])
        self.check("s = a((t | u)* | t+); t = b(t t); u = c()", [("a(", [")", "c"], False)])

    def test_types_that_only_need_each_other(self):
        schema = "s = a(t? u); t = b(v+); v = b(t | t s); u = c(s?)"
        self.check(schema, [("a(", ["c"], False), ("a(c(", [")", "a"], False)])
        self.check_impossible(schema, ["a(b(", "a(c(a(b("])

    def test_of_the_same_name_as_one_that_has_elements(self):
        schema = "s = a(t | u); t = b(t | t v); u = b(v); v = c()"
        self.check(schema, [("a(", ["b"], False), ("a(b(", ["c"], False), ("a(b(c()", [")"], False)])
        self.check_impossible(schema, ["a(b(b(", "a(b()"])

    def test_the_start_type(self):
        for text in NO_DOCUMENTS:
            schema = parse_schema(text)
            self.check_impossible(schema, [[], ["a"], ["a", "c"], ["a", ")"], [")"], ["c", ")"]])

    def test_an_empty_beginning_only_asks_for_a_document(self):
        self.assertIs(possible(parse_schema("s = a(t*); t = b(t)"), []), True)
        self.assertIs(possible(parse_schema("s = a(s); t = b()"), []), False)


class LimitsTest(BeginningCase):

    def test_three_hundred_events(self):
        events = ["a"] + ["b", ")"] * 149
        self.assertEqual(next_events(LIST, events), [")", "b", "c"])
        self.assertIs(whole(LIST, events + [")"]), True)
        self.assertEqual(len(events + [")"]), 300)
        self.check_impossible(LIST, [events + ["a"], events + [")", ")"]])
        schema = parse_schema("s = a((s | t)*); t = b(s?)")
        events = ["a"] + (["a"] * 29 + [")"] * 29) * 5
        self.assertEqual(next_events(schema, events), [")", "a", "b"])
        events = ["a"] + (["b", "a"] * 14 + [")"] * 28) * 5
        self.assertEqual(next_events(schema, events), [")", "a", "b"])
        self.assertEqual(next_events(schema, events + ["b"]), [")", "a"])
        self.assertIs(whole(schema, events + [")"]), True)

    def test_schemas_at_the_limits(self):
        schema = parse_schema("s=a(t? u? v? w? x? s? t? u? v? w? x?);t=a(s?);u=a(t?);v=a(u?);w=a(v?);x=a(w?)")
        events = ["a"] * 20 + [")"] * 19
        self.assertEqual(next_events(schema, events), [")", "a"])
        self.assertEqual(next_events(schema, ["a"] + ["a", ")"] * 11), [")"])
        self.check_impossible(schema, [["a"] + ["a", ")"] * 11 + ["a"]])
        schema = parse_schema("s=a(t t t);t=b(u u u);u=c(v v v);v=d(w w w);w=e(x x x);x=f()")
        self.assertEqual(next_events(schema, list("abcdef")), [")"])
        self.assertEqual(next_events(schema, list("abcdef") + [")", "f", ")"]), ["f"])

    def test_arguments_stay_and_lists_are_new(self):
        schema = parse_schema("s = a(t* u?); t = b(); u = c()")
        events = ["a", "b", ")"]
        before = copy.deepcopy((schema, events))
        first = next_events(schema, events)
        self.assertIs(type(first), list)
        self.assertIsNot(first, next_events(schema, events))
        first.append("x")
        self.assertEqual(next_events(schema, events), [")", "b", "c"])
        self.assertIs(possible(schema, events), True)
        self.assertIs(whole(schema, events), False)
        with self.assertRaises(NotPossible):
            next_events(schema, ["b"])
        with self.assertRaises(NotPossible):
            whole(schema, ["b"])
        self.assertEqual((schema, events), before)


if __name__ == "__main__":
    unittest.main()

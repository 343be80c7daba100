"""Whether a condition follows from another one, and whether one can hold (points 5, 8, 11, 17)."""

import copy
import random
import unittest

from soonsettled.conditions import parse_condition
from soonsettled.consequences import follows, satisfiable
from soonsettled.documents import document_of
from soonsettled.meaning import conforms, holding
from soonsettled.schemas import parse_schema
from tests.listed import Listed, difference, documents_up_to
from tests.samples import LOOKS, random_condition, random_schema

LIST = "s = a(t* u?); t = b(); u = c()"
TREE = "s = a((s | t)*); t = b(s?)"
CHAIN = "s = a(s?)"
NO_DOCUMENTS = ["s = a(s)", "s = a(t u); t = b(t); u = c()", "s = a(t+); t = a(s)"]


class SatisfiableTest(unittest.TestCase):

    def check(self, schema, cases):
        """Compares cases of (condition, (events, number) or None)."""
        for text, expected in cases:
            with self.subTest(schema=schema, condition=text):
                if expected is not None:
                    expected = (expected[0].split(), expected[1])
                self.assertEqual(satisfiable(parse_schema(schema), parse_condition(text)), expected)

    def test_in_the_least_document(self):
        self.check(LIST, [
            ("all", ("a )", 0)), ("is a", ("a )", 0)), ("not child all", ("a )", 0)), ("not is b", ("a )", 0)),
        ])

    def test_not_in_the_least_document(self):
        self.check(LIST, [
            ("is b", ("a b ) )", 1)), ("is c", ("a c ) )", 1)), ("parent all", ("a b ) )", 1)),
            ("child is c", ("a c ) )", 0)), ("later all", ("a b ) b ) )", 1)), ("earlier all", ("a b ) b ) )", 2)),
            ("later is c", ("a b ) c ) )", 1)), ("earlier is b and later is c", ("a b ) b ) c ) )", 2)),
            ("is b and earlier is b", ("a b ) b ) )", 2)),
            ("child (is b and later (is b and later is c))", ("a b ) b ) c ) )", 0)),
        ])

    def test_in_no_document(self):
        self.check(LIST, [
            ("none", None), ("is d", None), ("child is a", None), ("earlier is c", None),
            ("is c and later all", None), ("is c and is b", None), ("child child all", None),
            ("below parent is b", None), ("parent is b", None), ("above above all", None),
            ("is a and parent all", None), ("later is c and not parent child is c", None),
        ])

    def test_only_deeper_than_the_least_document(self):
        self.check(CHAIN, [
            ("above above above all", ("a a a a ) ) ) )", 3)),
            ("child child child child all", ("a a a a a ) ) ) ) )", 0)),
            ("below above above all", ("a a a ) ) )", 0)),
            ("parent (child child all and parent all)", ("a a a a ) ) ) )", 2)),
        ])
        self.check(TREE, [
            ("is b and below is b", ("a b a b ) ) ) )", 1)),
            ("above (is b and above is b)", ("a b a b a ) ) ) ) )", 4)), ("is b and child later is b", None),
            ("is b and below later is b", ("a b a a ) b ) ) ) )", 1)),
            ("is b and below (is a and later is a) and later is b", ("a b a a ) a ) ) ) b ) )", 1)),
        ])

    def test_the_first_of_as_many_events(self):
        self.check("s = m((t | u | v) w); t = b(w); u = ab(w); v = abc(w); w = c()", [
            ("child is c", ("m ab c ) ) c ) )", 0)), ("not is m and child is c", ("m ab c ) ) c ) )", 1)),
            ("is b", ("m b c ) ) c ) )", 1)), ("is abc or is b", ("m abc c ) ) c ) )", 1)),
            ("is c", ("m ab c ) ) c ) )", 2)),
        ])
        self.check("s = r(t t | u); t = b(); u = a(v v v | w); v = a(); w = c(v)", [
            ("parent is a", ("r a c a ) ) ) )", 2)), ("parent is r", ("r b ) b ) )", 1)),
            ("later is b", ("r b ) b ) )", 1)), ("parent is a and is a", ("r a a ) a ) a ) ) )", 2)),
        ])
        # With "b" the document has fewer events, with "a" it would come first of as many.
        self.check("s = r(t | u); t = a(v v); u = b(v); v = c()", [
            ("child is c", ("r b c ) ) )", 1)), ("is c", ("r b c ) ) )", 2)), ("later is c", ("r a c ) c ) ) )", 2)),
        ])

    def test_the_least_number(self):
        self.check("s = a(t t t); t = b(u u); u = c()", [
            ("is c and later is c", ("a b c ) c ) ) b c ) c ) ) b c ) c ) ) )", 2)),
            ("is b and earlier is b", ("a b c ) c ) ) b c ) c ) ) b c ) c ) ) )", 4)),
            ("is c and earlier all and parent (earlier all and later all)",
             ("a b c ) c ) ) b c ) c ) ) b c ) c ) ) )", 6)),
        ])

    def test_of_which_type_an_element_is(self):
        self.check("s = r(t u | v w); t = a(x?); u = b(); v = a(x x); w = c(); x = d()", [
            ("child (child is d and later is b)", ("r a d ) ) b ) )", 0)),
            ("is d and later is d and parent later is b", None), ("is d and later is d", ("r a d ) d ) ) c ) )", 2)),
            ("is a and later is c and not child all", None),
        ])

    def test_types_that_no_element_has(self):
        self.check("s = a(t | u); t = b(t); u = c(t*)", [
            ("is b", None), ("child is b", None), ("is c", ("a c ) )", 1)), ("not child is b", ("a c ) )", 0)),
        ])
        self.check("s = a(u t | u u); t = b(t); u = c()", [("is c and not later is c", ("a c ) c ) )", 2))])
        # There is a d, but not in a document.
        self.check("s = a(); t = d()", [("is d", None), ("not is a", None)])

    def test_no_documents(self):
        for schema in NO_DOCUMENTS:
            self.check(schema, [("all", None), ("is c", None), ("not none", None)])


class FollowsTest(unittest.TestCase):

    def check(self, schema, cases):
        """Compares cases of (first condition, second condition, (events, number) or None)."""
        for first, second, expected in cases:
            with self.subTest(schema=schema, first=first, second=second):
                if expected is not None:
                    expected = (expected[0].split(), expected[1])
                self.assertEqual(
                    follows(parse_schema(schema), parse_condition(first), parse_condition(second)), expected)

    def test_both_the_same_none_first_and_all_second(self):
        texts = ["all", "none", "is b", "later is c", "child is b and child is c", "not later all or above is a"]
        for text in texts:
            self.check(LIST, [(text, text, None), ("none", text, None), (text, "all", None)])

    def test_none_second_and_all_first(self):
        self.check(LIST, [
            ("all", "none", ("a )", 0)), ("is b", "none", ("a b ) )", 1)), ("none", "none", None),
            ("all", "is a", ("a b ) )", 1)), ("is d", "none", None), ("all", "is a or is b or is c", None),
            ("all", "is a or is b", ("a c ) )", 1)),
        ])

    def test_in_all_documents_of_a_schema(self):
        self.check(LIST, [
            ("child all", "is a", None), ("is b", "parent is a", None), ("later is c", "is b", None),
            ("is b", "later is c", ("a b ) )", 1)), ("later is c", "later all", None),
            ("later all", "later is c", ("a b ) b ) )", 1)), ("is c", "not later all", None),
            ("is c", "earlier is b", ("a c ) )", 1)), ("below all", "child all", None),
            ("is b", "earlier is b or later all", ("a b ) )", 1)), ("parent child is c and is b", "later is c", None),
        ])
        self.check(TREE, [
            ("child is b", "below is b", None), ("below is b", "child is b", ("a a b ) ) )", 0)),
            ("parent is b", "not later all", None), ("parent is b", "is a", None), ("is b", "parent is a", None),
            ("above is b", "parent is b", ("a b a a ) ) ) )", 3)), ("later later all", "later all", None),
            ("later all", "later later all", ("a a ) a ) )", 1)), ("below below is b", "below is b", None),
            ("is b and below is b", "child all", None),
            ("is b and below is b", "child child is b", ("a b a a b ) ) ) ) )", 1)),
        ])

    def test_the_same_looks_in_both(self):
        first = "child is a and child is b and later is a and later is b"
        self.check(TREE, [
            (first, "child is a or later is b", None),
            (first, "child is a and child is b and not (later is a and later is b)", ("a a a ) b ) ) a ) b ) )", 1)),
        ])

    def test_conditions_with_and_and_or(self):
        self.check(LIST, [
            ("is a or is b", "is a or is b or is c", None), ("is a or is c", "is a or is b", ("a c ) )", 1)),
            ("is b and later is c and earlier is b", "is b and later is c", None),
            ("is b and later is c", "is b and later is c and earlier is b", ("a b ) c ) )", 1)),
        ])

    def test_other_types_and_no_documents(self):
        self.check("s = a(t | u); t = b(t); u = c()", [
            ("all", "is a or is c", None), ("child all", "child is c", None),
        ])
        for schema in NO_DOCUMENTS:
            self.check(schema, [("all", "none", None), ("all", "all", None)])

    def test_where_it_follows_it_holds(self):
        source = random.Random(17)
        for _ in range(300):
            schema = random_schema(source)
            first, second = random_condition(source, 3), random_condition(source, 3)
            found = follows(schema, first, second)
            both = satisfiable(schema, ("and", (first, ("not", second))))
            self.assertEqual(found, both)
            if found is not None:
                events, number = found
                document = document_of(events)
                self.assertTrue(conforms(schema, document))
                there = [k for k in holding(first, document) if k not in holding(second, document)]
                self.assertEqual(there[0], number)


class LimitsTest(unittest.TestCase):

    def test_sixteen_tuples_with_four_looks(self):
        schema = parse_schema("s=a((s t|t s)* u? v?);t=a(v?|s);u=b(u|v|());v=b(v? u?);w=r(r? s?);r=d(w*)")
        first = parse_condition("(child is a or not later is b) and (below is a or above is b)")
        documents = documents_up_to(schema, 6)
        for text in ("child is a and all", "later is b or none", "not not above is b", "below is a and all",
        "not child is a"):
            second = parse_condition(text)
            found = follows(schema, first, second)
            self.assertIsNotNone(found)
            self.assertEqual(found, Listed(documents, difference(first, second)).satisfiable())
            self.assertIsNone(follows(schema, ("and", (first, second)), second))

    def test_each_look_four_times_over(self):
        schema = parse_schema("s=a((s | t | u | v | w | x)*);t=a(s? t?);u=a(v? w?);v=b(u? s?);w=a(w?);x=b(s? x?)")
        for look in LOOKS:
            condition = ("is", "a")
            for _ in range(4):
                condition = (look, ("and", (("is", "a"), condition)) if condition[0] != "is" else condition)
            events, number = satisfiable(schema, condition)
            self.assertIn(number, holding(condition, document_of(events)))
            self.assertEqual(follows(schema, condition, (look, ("is", "a"))), None)

    def test_a_large_least_document(self):
        schema = parse_schema("s=a(t t t);t=b(u u u);u=c(v v v);v=d(w w w);w=e(x x x);x=f()")
        events, number = satisfiable(schema, parse_condition("is f and not later all and parent not later all"))
        self.assertEqual((len(events), number), (728, 15))
        self.assertIsNone(follows(schema, parse_condition("is f"), parse_condition("parent parent all")))

    def test_arguments_stay_and_answers_are_new(self):
        schema = parse_schema(LIST)
        first = parse_condition("is b")
        second = parse_condition("later is c")
        before = copy.deepcopy((schema, first, second))
        for call in (lambda: follows(schema, first, second), lambda: satisfiable(schema, first)):
            found = call()
            self.assertIs(type(found), tuple)
            self.assertIs(type(found[0]), list)
            expected = (list(found[0]), found[1])
            found[0].clear()
            self.assertEqual(call(), expected)
        self.assertEqual((schema, first, second), before)


if __name__ == "__main__":
    unittest.main()

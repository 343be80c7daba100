"""What is settled, the ends with which something is so, the least ends, and the forced events (points 14 to 16)."""

import copy
import unittest

from soonsettled.beginnings import next_events, whole
from soonsettled.conditions import parse_condition
from soonsettled.documents import document_of, read_events
from soonsettled.errors import NotPossible
from soonsettled.meaning import conforms, holding
from soonsettled.schemas import parse_schema
from soonsettled.settling import end_with, forced, least_end, settled

LIST = "s = a(t* u?); t = b(); u = c()"
# Elements of one name of which it is open for long which type they have.
TWINS = "s = a(t | u); t = b(v* w); u = b(v* x); v = c(); w = d(); x = e()"
TREE = "s = a((s | t)*); t = b(s?)"
CHOICE = "s = r(t | u v); t = a(v?); u = a(); v = b()"
NO_DOCUMENTS = ["s = a(s)", "s = a(t u); t = b(t); u = c()", "s = a(t+); t = a(s)"]
SHORT = {"in": "i", "out": "o", "open": "?"}


class SettlingCase(unittest.TestCase):

    def check_settled(self, schema, condition, cases):
        """Compares cases of (text of a beginning, what is told of each element); these are i, o and ?."""
        schema = parse_schema(schema)
        condition = parse_condition(condition)
        for text, told in cases:
            with self.subTest(condition=condition, text=text):
                events = read_events(text)
                answers = settled(schema, condition, events)
                self.assertEqual("".join(SHORT[answer] for answer in answers), told)
                for number, answer in enumerate(answers):
                    self.check_ends(schema, condition, events, number, answer)

    def check_ends(self, schema, condition, events, number, answer):
        """Compares the ends with which the condition holds and does not hold with what is told of the element."""
        for holds, alone in [(True, "in"), (False, "out")]:
            end = end_with(schema, condition, events, number, holds)
            self.assertEqual(end is not None, answer in (alone, "open"))
            if end is not None:
                document = document_of(events + end)
                self.assertTrue(conforms(schema, document))
                self.assertIs(number in holding(condition, document), holds)

    def check_ends_with(self, schema, condition, cases):
        """Compares cases of (text of a beginning, number, end with which it holds, end with which it does not)."""
        schema = parse_schema(schema)
        condition = parse_condition(condition)
        for text, number, held, failed in cases:
            with self.subTest(condition=condition, text=text, number=number):
                events = read_events(text)
                self.assertEqual(end_with(schema, condition, events, number, True), as_events(held))
                self.assertEqual(end_with(schema, condition, events, number, False), as_events(failed))


def as_events(text):
    """Returns the list of the events that are named in a text, None for None."""
    return None if text is None else text.split()


class SettledTest(SettlingCase):

    def test_examples(self):
        schema = parse_schema("s = a(t* u?); t = b(); u = c()")
        condition = parse_condition("is b and later is c")
        self.assertEqual(settled(schema, condition, ["a", "b", ")", "b", ")"]), ['out', 'open', 'open'])
        self.assertEqual(end_with(schema, condition, ["a", "b", ")"], 1, True), ['c', ')', ')'])

    def test_names_and_constants(self):
        self.check_settled(LIST, "all", [("", ""), ("a(", "i"), ("a(b(", "ii"), ("a(b() c())", "iii")])
        self.check_settled(LIST, "none", [("", ""), ("a(", "o"), ("a(b() b(", "ooo"), ("a(b())", "oo")])
        self.check_settled(LIST, "is b", [("", ""), ("a(", "o"), ("a(b(", "oi"), ("a(b() b() c()", "oiio")])
        self.check_settled(LIST, "is d", [("a(b(", "oo"), ("a()", "o")])

    def test_child(self):
        self.check_settled(LIST, "child is b", [
            ("a(", "?"), ("a(c(", "oo"), ("a(c()", "oo"), ("a(b(", "io"), ("a(b() c(", "ioo"), ("a()", "o"),
        ])
        self.check_settled(LIST, "child is c", [("a(b()", "?o"), ("a(b() c(", "ioo"), ("a(b())", "oo")])
        self.check_settled("s = a(t); t = b(u); u = c()", "child is c", [("a(", "o"), ("a(b(", "oi")])

    def test_below(self):
        self.check_settled(TREE, "below is b", [
            ("a(", "?"), ("a(a(", "??"), ("a(a(b(", "ii?"), ("a(a()", "?o"), ("a(a() b(", "io?"), ("a(a())", "oo"),
            ("a(a(a() )", "?oo"),
        ])
        self.check_settled("s = a(t?); t = b(u); u = c()", "below is c", [("a(", "?"), ("a(b(", "ii"), ("a()", "o")])

    def test_parent_and_above(self):
        self.check_settled(TREE, "parent is b", [("a(", "o"), ("a(b(", "oo"), ("a(b(a(", "ooi"), ("a(b(a(a(", "ooio")])
        self.check_settled(TREE, "above is b", [
            ("a(", "o"), ("a(b(", "oo"), ("a(b(a(a(", "ooii"), ("a(b(a() ) a(", "ooio"),
        ])

    def test_earlier(self):
        self.check_settled(LIST, "earlier is b", [
            ("a(", "o"), ("a(b(", "oo"), ("a(b() b(", "ooi"), ("a(b() c(", "ooi"),
        ])

    def test_later(self):
        self.check_settled(LIST, "later is c", [
            ("a(", "o"), ("a(b(", "o?"), ("a(b()", "o?"), ("a(b() b(", "o??"), ("a(b() b() c(", "oiio"),
            ("a(b() b())", "ooo"),
        ])
        self.check_settled("s = a(t u? v); t = b(); u = c(); v = d()", "later is d",
                           [("a(b(", "oi"), ("a(b() c(", "oii"), ("a(b() d(", "oio")])
        self.check_settled(LIST, "later all", [
            ("a(b(", "o?"), ("a(b() b(", "oi?"), ("a(b() c(", "oio"), ("a(b())", "oo"),
        ])

    def test_what_is_above_an_element_that_is_open(self):
        # Whether the parent has a c is open until it begins, or until the parent ends.
        self.check_settled(LIST, "parent child is c", [
            ("a(", "o"), ("a(b(", "o?"), ("a(b() b(", "o??"), ("a(b() b() c(", "oiii"), ("a(b() b())", "ooo"),
        ])
        self.check_settled(TREE, "parent earlier all", [
            ("a(a(a(", "ooo"), ("a(a() a(a(", "oooi"), ("a(a() a(a() a(", "oooii"),
        ])
        self.check_settled(TREE, "parent later is b", [
            ("a(a(a(", "oo?"), ("a(a(a() a(", "oo??"), ("a(a(a() ) b(", "ooio"), ("a(a(a() ) a(", "oo?o"),
            ("a(a(a()))", "ooo"),
        ])
        self.check_settled(TREE, "above later is b", [
            ("a(a(a(a(", "oo??"), ("a(a(a(a() ) b(", "oo?i?"), ("a(a(a(a() ) ) b(", "ooiio"),
            ("a(a(a(a())) a(", "oo??o"),
        ])
        self.check_settled(TREE, "above child is b", [("a(a(", "o?"), ("a(a() b(", "oii"), ("a(b() a(a(", "oiii")])

    def test_what_is_before_behind_and_below_an_element(self):
        self.check_settled(TREE, "earlier below is b", [
            ("a(a(", "oo"), ("a(a() a(", "ooo"), ("a(a(b() ) a(", "oooi"), ("a(a(b(", "ooo"),
        ])
        self.check_settled(TREE, "later child is b", [
            ("a(a(", "o?"), ("a(a() a(", "o??"), ("a(a() a(b(", "oi??"), ("a(a() a() b(", "o???"),
            ("a(a() a())", "ooo"),
        ])
        self.check_settled(TREE, "child later is b", [
            ("a(", "?"), ("a(a(", "??"), ("a(a() b(", "ioo"), ("a(b() b(", "ioo"), ("a(b())", "oo"),
        ])
        self.check_settled(TREE, "below not child all", [("a(", "?"), ("a(a(", "i?"), ("a()", "o")])
        self.check_settled(TREE, "not earlier all and later later all", [
            ("a(a(", "o?"), ("a(a() b(", "o?o"), ("a(a() b() a(", "oioo"), ("a(a() b())", "ooo"),
        ])

    def test_not_and_or(self):
        self.check_settled(LIST, "not later is c", [("a(b(", "i?"), ("a(b() c(", "ioi"), ("a(b())", "ii")])
        self.check_settled(LIST, "is b and later is c", [("a(b() c(", "oio"), ("a(b() b(", "o??")])
        self.check_settled(LIST, "is b or child is c", [("a(", "?"), ("a(b(", "?i"), ("a(b())", "oi")])
        # Each of the two is open for the first b, but just one of them holds in each document.
        self.check_settled(LIST, "is b and (later is c or not later is c)", [("a(b(", "oi"), ("a(b() b(", "oii")])
        self.check_settled(LIST, "later is c and not parent child is c", [("a(b(", "oo")])
        # Here the schema tells that.
        self.check_settled("s = a(t | u); t = b(v); u = b(w); v = c(); w = d()", "child is c or child is d", [
            ("a(b(", "oi"), ("a(", "o"),
        ])

    def test_as_soon_as_it_begins(self):
        self.check_settled("s = a(t); t = b(u u*); u = c()", "child is c and below not is b", [("a(b(", "oi")])
        self.check_settled("s = a(t u); t = b(); u = c(v?); v = b()", "later is c", [("a(", "o"), ("a(b(", "oi")])
        # There is only a b if there is a c behind it.
        self.check_settled("s = a((t u)?); t = b(); u = c()", "child is c", [("a(", "?"), ("a(b(", "io"), ("a()", "o")])

    def test_long_before_it_ends(self):
        self.check_settled(TREE, "child is b", [("a(b(", "io"), ("a(b() a(a(a(", "io???")])
        self.check_settled("s = a((t | u) v*); t = b(); u = c(); v = d()", "child is b", [
            ("a(c(", "oo"), ("a(b(", "io"),
        ])

    def test_by_the_last_event_only(self):
        self.check_settled("s = a(s*)", "later all or not parent all", [("a(a() a()", "ii?"), ("a(a() a())", "iio")])
        self.check_settled("s = a(s*)", "not child child all", [("a(a()", "?i"), ("a(a())", "ii")])
        self.check_settled(LIST, "not child is c", [("a(b()", "?i"), ("a(b())", "ii"), ("a(", "?"), ("a()", "i")])

    def test_of_which_type_an_element_is(self):
        self.check_settled(TWINS, "child is d", [
            ("a(b(", "o?"), ("a(b(c() c(", "o?oo"), ("a(b(c() d(", "oioo"), ("a(b(e(", "ooo"),
        ])
        self.check_settled(TWINS, "later is e or child is e", [("a(b(c() c(", "o???"), ("a(b(c() c() e(", "oiiio")])
        # An a with a child has no brother.
        self.check_settled(CHOICE, "later all", [
            ("r(", "o"), ("r(a(", "o?"), ("r(a()", "o?"), ("r(a(b(", "ooo"), ("r(a() b(", "oio"), ("r(a())", "oo"),
        ])
        schema = "s = r(t u | v w); t = a(x?); u = b(); v = a(x x); w = c(); x = d()"
        self.check_settled(schema, "later is b", [
            ("r(a(", "o?"), ("r(a()", "oi"), ("r(a(d(", "o?o"), ("r(a(d()", "o?o"), ("r(a(d())", "oio"),
            ("r(a(d() d(", "oooo"),
        ])

    def test_types_that_no_element_has(self):
        for content in ("(t | x)*", "t* | x t", "(t x?)*", "t* x*", "x* t*"):
            self.check_settled(f"s = a({content}); t = b(); x = c(x)", "later is c or child is c", [
                ("a(", "o"), ("a(b(", "oo"), ("a(b() b()", "ooo"),
            ])
        self.check_settled("s = a(t (u | x)); t = b(); u = c(); x = b(x+)", "later is c", [("a(b(", "oi")])

    def test_settled_stays_settled(self):
        schema = parse_schema(TREE)
        condition = parse_condition("later is b or below is b and not above later is b")
        events = read_events("a(a(a() b(a() ) ) a(b()))")
        before = []
        for size in range(len(events) + 1):
            answers = settled(schema, condition, events[:size])
            for old, new in zip(before, answers):
                self.assertIn(old, ("open", new))
            before = answers
        numbers = holding(condition, document_of(events))
        self.assertEqual(before, ["in" if number in numbers else "out" for number in range(7)])


class EndsTest(SettlingCase):

    def test_least_ends(self):
        for schema, text, end in [
            (LIST, "", "a )"), (LIST, "a(", ")"), (LIST, "a(b(", ") )"), (LIST, "a(b() c())", ""), (LIST, "a()", ""),
            ("s = a(s s | t); t = b(u?); u = c()", "", "a b ) )"),
            ("s = a(s s | t); t = b(u?); u = c()", "a(a(", "b ) ) a b ) ) )"),
            ("s = a(t u | v); t = b(); u = a(); v = c(t)", "", "a b ) a ) )"),
            ("s = a(t u | v); t = c(); u = a(); v = b(t)", "", "a b c ) ) )"),
            ("s = a(t u | u t | t); t = c(t?); u = b()", "a(", "c ) )"),
            ("s = a(t u | u t); t = c(t?); u = b()", "a(", "b ) c ) )"),
            ("s = a(t u | u t); t = c(t?); u = b()", "a(c(c(", ") ) b ) )"),
            ("s = m((t | u) w); t = b(w); u = ab(w); w = c()", "", "m ab c ) ) c ) )"),
            ("s = m((t | u | v) w); t = ab(w); u = a(w); v = abc(w); w = c()", "", "m a c ) ) c ) )"),
        ]:
            with self.subTest(schema=schema, text=text):
                self.assertEqual(least_end(parse_schema(schema), read_events(text)), end.split())

    def test_a_least_end_depends_on_the_types(self):
        schema = parse_schema(TWINS)
        self.assertEqual(least_end(schema, read_events("a(b(c(")), ") d ) ) )".split())
        self.assertEqual(least_end(schema, read_events("a(b(e(")), ") ) )".split())
        schema = parse_schema("s = r(t | u v); t = a(v v v); u = a(v?); v = b()")
        self.assertEqual(least_end(schema, read_events("r(a(")), ") b ) )".split())
        self.assertEqual(least_end(schema, read_events("r(a(b(")), ") ) b ) )".split())
        self.assertEqual(least_end(schema, read_events("r(a(b() b(")), ") b ) ) )".split())

    def test_fewer_events_come_first_and_an_end_before_a_name(self):
        # Both ends have six events; at the first event at which they differ one of them has ")".
        schema = parse_schema("s = r(t); t = a(u | v v); u = b(w); v = b(); w = c()")
        self.assertEqual(least_end(schema, []), "r a b ) b ) ) )".split())
        self.assertEqual(least_end(schema, ["r", "a", "b", "c"]), ") ) ) )".split())
        schema = parse_schema("s = r(t t | u); t = b(); u = a(v v v); v = a()")
        self.assertEqual(least_end(schema, ["r"]), "b ) b ) )".split())

    def test_ends_with_which_a_condition_holds(self):
        self.check_ends_with(LIST, "later is c", [
            ("a(b(", 1, ") c ) )", ") )"), ("a(b(", 0, None, ") )"), ("a(b() b(", 1, ") c ) )", ") )"),
            ("a(b() c(", 1, ") )", None), ("a(b() c(", 2, None, ") )"), ("a(b() c())", 1, "", None),
            ("a(b() c())", 0, None, ""), ("a(b())", 1, None, ""),
        ])
        self.check_ends_with(LIST, "child is b and child is c", [
            ("a(", 0, "b ) c ) )", ")"), ("a(b(", 0, ") c ) )", ") )"), ("a(c(", 0, None, ") )"),
        ])

    def test_more_events_than_the_least_end_has(self):
        self.check_ends_with(TREE, "below (is b and child child is b)", [
            ("a(", 0, "b a b ) ) ) )", ")"), ("a(a(", 0, ") b a b ) ) ) )", ") )"), ("a(b(", 0, "a b ) ) ) )", ") )"),
            ("a(b(a(", 0, "b ) ) ) )", ") ) )"), ("a(b(a() )", 0, "b a b ) ) ) )", ")"),
        ])
        self.check_ends_with(TREE, "later (is a and later is b)", [
            ("a(b(", 1, ") a ) b ) )", ") )"), ("a(b() b(", 2, ") a ) b ) )", ") )"),
            ("a(a(b(", 2, ") a ) b ) ) )", ") ) )"),
        ])
        self.check_ends_with("s = a(s?)", "child child child all", [
            ("a(", 0, "a a a ) ) ) )", ")"), ("a(a(", 0, "a a ) ) ) )", ") )"),
        ])

    def test_ends_of_twins(self):
        self.check_ends_with(TWINS, "child is e", [
            ("a(", 0, None, "b d ) ) )"), ("a(b(", 1, "e ) ) )", "d ) ) )"), ("a(b(c(", 1, ") e ) ) )", ") d ) ) )"),
            ("a(b(c() e(", 1, ") ) )", None), ("a(b(c() d(", 1, None, ") ) )"),
        ])

    def test_whole_documents(self):
        schema = parse_schema(LIST)
        for text in ("a()", "a(b())", "a(b() b() c())"):
            events = read_events(text)
            for condition in ("all", "is b", "later is c", "child is b and not earlier all"):
                condition = parse_condition(condition)
                numbers = holding(condition, document_of(events))
                for number in range(events.count(")")):
                    held = number in numbers
                    self.assertEqual(end_with(schema, condition, events, number, held), [])
                    self.assertIsNone(end_with(schema, condition, events, number, not held))
            self.assertEqual(least_end(schema, events), [])
            self.assertEqual(forced(schema, events), [])


class ForcedTest(unittest.TestCase):

    def check(self, schema, cases):
        schema = parse_schema(schema)
        for text, expected in cases:
            with self.subTest(text=text):
                events = read_events(text)
                found = forced(schema, events)
                self.assertEqual(found, expected.split())
                self.assertNotEqual(len(next_events(schema, events + found)), 1)
                self.assertIs(whole(schema, events + found), next_events(schema, events + found) == [])

    def test_none_many_and_all(self):
        self.check(LIST, [
            ("", "a"), ("a(", ""), ("a(b(", ")"), ("a(b()", ""), ("a(c(", ") )"), ("a(c()", ")"), ("a()", ""),
        ])
        self.check("s = a(t u); t = b(v v); u = c(w?); v = d(); w = e()", [
            ("", "a b d ) d ) ) c"), ("a(b(d(", ") d ) ) c"), ("a(b(d() d() ) c(", ""),
            ("a(b(d() d() ) c(e(", ") ) )"),
        ])
        self.check("s = a(t u); t = b(v v); u = c(v); v = d()", [
            ("", "a b d ) d ) ) c d ) ) )"), ("a(b(d() d() ) c(d()", ") )"), ("a(b(d() d()) c(d()))", ""),
        ])

    def test_what_is_the_same_in_all_types(self):
        self.check(TWINS, [("", "a b"), ("a(b(", ""), ("a(b(c(", ")"), ("a(b(c()", ""), ("a(b(d(", ") ) )")])
        self.check("s = a(t | u); t = b(v v); u = b(v v v); v = c()", [
            ("", "a b c ) c )"), ("a(b(c() c()", ""), ("a(b(c() c() )", ")"), ("a(b(c() c() c(", ") ) )"),
        ])
        self.check("s = a(t | u u); t = b(); u = b()", [("", "a b )"), ("a(b()", ""), ("a(b() b(", ") )")])

    def test_types_that_no_element_has(self):
        self.check("s = a(t | x | x t); t = b(x*); x = c(x)", [("", "a b ) )"), ("a(", "b ) )")])
        self.check("s = a(t x | t u); t = b(); u = c(); x = d(x)", [("", "a b ) c ) )")])

    def test_no_more_than_the_least_end(self):
        # All 728 events are forced; those behind them are none.
        schema = parse_schema("s=a(t t t);t=b(u u u);u=c(v v v);v=d(w w w);w=e(x x x);x=f()")
        found = forced(schema, [])
        self.assertEqual(len(found), 728)
        self.assertEqual(found, least_end(schema, []))
        self.assertEqual(forced(schema, found[:300]), found[300:])
        self.assertIs(whole(schema, found), True)

    def test_told_as_before(self):
        schema = parse_schema("s = a((t v)* u?); t = b(); u = c(); v = d()")
        condition = parse_condition("later is d or child is c")
        for text in ("a(", "a(b(", "a(b() d(", "a(c(", "a(b()"):
            events = read_events(text)
            before = settled(schema, condition, events)
            behind = settled(schema, condition, events + forced(schema, events))
            self.assertEqual(behind[:len(before)], before)


class ImpossibleTest(unittest.TestCase):

    def check(self, schema, beginnings):
        schema = parse_schema(schema)
        condition = parse_condition("is b and later is c")
        for events in beginnings:
            for call in (
                lambda: settled(schema, condition, events), lambda: least_end(schema, events),
                lambda: forced(schema, events), lambda: end_with(schema, condition, events, 0, True),
                lambda: end_with(schema, condition, events, 0, False),
            ):
                with self.subTest(events=events), self.assertRaises(NotPossible):
                    call()

    def test_impossible_beginnings(self):
        self.check(LIST, [
            ["b"], ["c", ")"], ["zz"], ["a", "a"], ["a", "c", ")", "b"], ["a", "b", "b"], ["a", "d"], ["a", ")", ")"],
            ["a", ")", "a"], [")"], ["b", ")"], ["a", "b", "c", ")", ")", ")"],
        ])
        self.check("s = a(t); t = b()", [["a", ")"], ["b", ")"], ["a", "b", ")", "b"], ["a", "b", ")", ")", ")"]])

    def test_no_documents(self):
        for schema in NO_DOCUMENTS:
            self.check(schema, [[], ["a"], ["a", ")"], ["c", ")"]])


class ArgumentsTest(unittest.TestCase):

    def test_arguments_stay_and_lists_are_new(self):
        schema = parse_schema(LIST)
        condition = parse_condition("is b and later is c")
        events = ["a", "b", ")"]
        before = copy.deepcopy((schema, condition, events))
        calls = [
            lambda: settled(schema, condition, events), lambda: least_end(schema, events),
            lambda: forced(schema, ["a", "b"]), lambda: end_with(schema, condition, events, 1, True),
            lambda: end_with(schema, condition, events, 1, False),
        ]
        for call in calls:
            first = call()
            expected = list(first)
            self.assertIs(type(first), list)
            self.assertIsNot(call(), first)
            first.append("x")
            self.assertEqual(call(), expected)
        self.assertEqual((schema, condition, events), before)
        with self.assertRaises(NotPossible):
            settled(schema, condition, ["b"])
        self.assertEqual((schema, condition, events), before)


if __name__ == "__main__":
    unittest.main()

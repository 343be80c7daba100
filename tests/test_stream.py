"""Streams (points 14 to 16)."""

import copy
import inspect
import unittest

from soonsettled.beginnings import next_events
from soonsettled.conditions import parse_condition
from soonsettled.documents import read_events
from soonsettled.errors import NotPossible
from soonsettled.schemas import parse_schema
from soonsettled.settling import settled
from soonsettled.stream import Stream

LIST = parse_schema("s = a(t* u?); t = b(); u = c()")
LATER = parse_condition("is b and later is c")
TREE = parse_schema("s = a((s | t)*); t = b(s?)")
TWINS = parse_schema("s = a(t | u); t = b(v* w); u = b(v* x); v = c(); w = d(); x = e()")


def fed(schema, condition, events):
    """Returns a stream that has been fed with these events."""
    stream = Stream(schema, condition)
    for event in events:
        stream.feed(event)
    return stream


class StreamCase(unittest.TestCase):

    def check_agrees(self, stream, schema, condition, events):
        """Compares a stream with what the functions tell of the events that it was fed with."""
        answers = settled(schema, condition, events)
        self.assertEqual([stream.told(number) for number in range(len(answers))], answers)
        self.assertEqual(stream.open_numbers(), [k for k, answer in enumerate(answers) if answer == "open"])
        self.assertEqual(stream.next_events(), next_events(schema, events))
        self.assertEqual(stream.state(), tuple(events))

    def check_feeds(self, schema, condition, steps):
        """Compares what feed returns for each (event, news)."""
        stream = Stream(schema, parse_condition(condition))
        events = []
        self.check_agrees(stream, schema, parse_condition(condition), events)
        for event, news in steps:
            with self.subTest(condition=condition, events=events, event=event):
                self.assertEqual(stream.feed(event), news)
                events.append(event)
                self.check_agrees(stream, schema, parse_condition(condition), events)


class FeedTest(StreamCase):

    def test_settled_by_what_comes_later(self):
        self.check_feeds(LIST, "is b and later is c", [
            ("a", [(0, "out")]), ("b", []), (")", []), ("b", []), (")", []),
            ("c", [(1, "in"), (2, "in"), (3, "out")]), (")", []), (")", []),
        ])
        self.check_feeds(LIST, "is b and later is c", [
            ("a", [(0, "out")]), ("b", []), (")", []), ("b", []), (")", []), (")", [(1, "out"), (2, "out")]),
        ])

    def test_settled_as_soon_as_it_begins(self):
        self.check_feeds(LIST, "is b", [("a", [(0, "out")]), ("b", [(1, "in")]), (")", []), ("c", [(2, "out")])])
        self.check_feeds(LIST, "all", [("a", [(0, "in")]), ("c", [(1, "in")]), (")", []), (")", [])])
        self.check_feeds(LIST, "none", [("a", [(0, "out")]), (")", [])])

    def test_settled_by_the_last_event(self):
        self.check_feeds(LIST, "not child is c", [("a", []), ("b", [(1, "in")]), (")", []), (")", [(0, "in")])])
        self.check_feeds(TREE, "not below is b and not later all", [
            ("a", []), ("a", []), (")", []), ("a", [(1, "out")]), ("a", []), (")", []), (")", [(3, "in")]),
            (")", [(0, "in"), (2, "in")]),
        ])

    def test_settled_long_after_its_end(self):
        self.check_feeds(TREE, "above later is b", [
            ("a", [(0, "out")]), ("a", [(1, "out")]), ("a", []), ("a", []), (")", []), (")", []), ("b", [(3, "in")]),
            (")", []), (")", []), ("a", [(5, "out")]), (")", []), (")", [(2, "out"), (4, "out")]),
        ])
        self.check_feeds(TREE, "above later is b", [
            ("a", [(0, "out")]), ("a", [(1, "out")]), ("a", []), ("a", []), (")", []), (")", []), (")", []),
            ("b", [(2, "in"), (3, "in"), (4, "out")]), (")", []), (")", []),
        ])

    def test_settled_by_the_type_of_an_element(self):
        self.check_feeds(TWINS, "later is e or child is d", [
            ("a", [(0, "out")]), ("b", []), ("c", []), (")", []), ("c", []), (")", []),
            ("e", [(1, "out"), (2, "in"), (3, "in"), (4, "out")]), (")", []), (")", []), (")", []),
        ])

    def test_the_earliest_event(self):
        # The beginning "r a" is that of both rows; the row is settled when the a ends without a b in it.
        schema = parse_schema("s = r(t u | v w); t = a(); u = b(); v = a(x); w = c(); x = d()")
        self.check_feeds(schema, "later is b", [
            ("r", [(0, "out")]), ("a", []), (")", [(1, "in")]), ("b", [(2, "out")]),
        ])
        self.check_feeds(schema, "later is b", [("r", [(0, "out")]), ("a", []), ("d", [(1, "out"), (2, "out")])])

    def test_a_schema_with_one_document(self):
        schema = parse_schema("s = a(t u); t = b(u); u = c()")
        self.check_feeds(schema, "later is c or below is b", [
            ("a", [(0, "in")]), ("b", [(1, "in")]), ("c", [(2, "out")]), (")", []), (")", []), ("c", [(3, "out")]),
            (")", []), (")", []),
        ])


class NotPossibleTest(StreamCase):

    def test_no_documents(self):
        for text in ("s = a(s)", "s = a(t u); t = b(t); u = c()", "s = a(t+); t = b(s)"):
            schema = parse_schema(text)
            with self.assertRaises(NotPossible):
                Stream(schema, LATER)
            with self.assertRaises(NotPossible):
                Stream.opened(schema, LATER, ())

    def test_fed_on_after_an_error(self):
        stream = Stream(LIST, LATER)
        events = []
        for event, wrong_events in [
            ("a", [")", "b", "c", "s", "zz"]), ("b", ["a", "d", "t"]), (")", ["a", "b", "c", "abcdefgh"]),
            ("b", ["a"]), (")", ["b", "c"]), ("c", ["a", "u"]), (")", ["b", "c"]), (")", ["b", "c", "a"]),
        ]:
            for wrong in wrong_events:
                with self.assertRaises(NotPossible):
                    stream.feed(wrong)
                self.check_agrees(stream, LIST, LATER, events)
            self.assertEqual(stream.feed(event), fed(LIST, LATER, events).feed(event))
            events.append(event)
            self.check_agrees(stream, LIST, LATER, events)
        for wrong in (")", "a", "b", "c", "zz"):
            with self.assertRaises(NotPossible):
                stream.feed(wrong)
            self.check_agrees(stream, LIST, LATER, events)

    def test_an_error_before_anything_else(self):
        stream = Stream(LIST, LATER)
        with self.assertRaises(NotPossible):
            stream.feed(")")
        self.assertEqual(stream.state(), ())
        self.assertEqual(stream.feed("a"), [(0, "out")])


class ForkTest(StreamCase):

    def test_the_same_for_the_same_events(self):
        events = read_events("a(a(a() b(a() ) ) a(b() ) b())")
        condition = parse_condition("later is b and not below is b")
        stream = Stream(TREE, condition)
        for size, event in enumerate(events):
            twins = [stream.fork(), stream.fork().fork(), Stream.opened(TREE, condition, stream.state())]
            for twin in twins:
                self.assertIs(type(twin), Stream)
                self.check_agrees(twin, TREE, condition, events[:size])
            news = stream.feed(event)
            for twin in twins:
                self.check_agrees(twin, TREE, condition, events[:size])
                self.assertEqual(twin.feed(event), news)
                self.check_agrees(twin, TREE, condition, events[:size + 1])

    def test_fed_otherwise(self):
        for begun in ("", "a(", "a(b(", "a(b() b()"):
            events = read_events(begun)
            for make in (lambda stream: stream.fork(), lambda stream: Stream.opened(LIST, LATER, stream.state())):
                stream = fed(LIST, LATER, events)
                twin = make(stream)
                for event in least_rest(events, "c"):
                    stream.feed(event)
                self.check_agrees(twin, LIST, LATER, events)
                for event in least_rest(events, "b"):
                    twin.feed(event)
                self.check_agrees(stream, LIST, LATER, events + least_rest(events, "c"))
                self.check_agrees(twin, LIST, LATER, events + least_rest(events, "b"))

    def test_a_fork_that_is_fed_first(self):
        stream = fed(LIST, LATER, ["a", "b", ")"])
        twin = stream.fork()
        self.assertEqual(twin.feed(")"), [(1, "out")])
        self.assertEqual(stream.open_numbers(), [1])
        with self.assertRaises(NotPossible):
            twin.feed("c")
        self.assertEqual(stream.feed("c"), [(1, "in"), (2, "out")])
        self.assertEqual(twin.told(1), "out")
        self.assertEqual(stream.told(1), "in")

    def test_opened_with_a_whole_document(self):
        events = ("a", "b", ")", ")")
        stream = Stream.opened(LIST, LATER, events)
        self.check_agrees(stream, LIST, LATER, list(events))
        with self.assertRaises(NotPossible):
            stream.feed("a")
        self.assertEqual(stream.fork().state(), events)

    def test_methods_are_defined_in_the_class(self):
        for name in ("__init__", "feed", "told", "open_numbers", "next_events", "state", "fork", "opened"):
            self.assertIn(name, vars(Stream))
        self.assertIsInstance(inspect.getattr_static(Stream, "opened"), staticmethod)


def least_rest(events, name):
    """Returns the events that close what is open, and then go on with an element of that name, and no further."""
    depth = 2 * len([event for event in events if event != ")"]) - len(events)
    return (["a"] if not events else [")"] * (depth - 1)) + [name, ")"]


class ArgumentsTest(StreamCase):

    def test_lists_are_new(self):
        stream = fed(LIST, LATER, ["a", "b", ")", "b", ")"])
        numbers = stream.open_numbers()
        self.assertIs(type(numbers), list)
        self.assertEqual(numbers, [1, 2])
        numbers.clear()
        coming = stream.next_events()
        self.assertIs(type(coming), list)
        coming.append("x")
        self.assertIs(type(stream.state()), tuple)
        self.check_agrees(stream, LIST, LATER, ["a", "b", ")", "b", ")"])
        news = stream.feed("c")
        self.assertEqual(news, [(1, "in"), (2, "in"), (3, "out")])
        self.assertEqual([type(part) for part in news], [tuple] * 3)
        news.clear()
        self.check_agrees(stream, LIST, LATER, ["a", "b", ")", "b", ")", "c"])
        twin = stream.fork()
        self.assertIsNot(twin.next_events(), stream.next_events())

    def test_arguments_stay(self):
        schema = parse_schema("s = a(t* u?); t = b(); u = c()")
        condition = parse_condition("is b and later is c")
        state = ("a", "b", ")")
        before = copy.deepcopy((schema, condition, state))
        stream = Stream.opened(schema, condition, state)
        stream.feed("c")
        stream.fork().feed(")")
        with self.assertRaises(NotPossible):
            stream.feed("c")
        self.assertEqual((schema, condition, state), before)

    def test_two_streams_do_not_share(self):
        first = Stream(LIST, LATER)
        second = Stream(LIST, LATER)
        first.feed("a")
        self.assertEqual(second.state(), ())
        self.assertEqual(second.next_events(), ["a"])
        self.assertEqual(second.feed("a"), [(0, "out")])

    def test_three_hundred_events(self):
        stream = Stream(LIST, LATER)
        stream.feed("a")
        for number in range(1, 149):
            self.assertEqual(stream.feed("b"), [])
            self.assertEqual(stream.feed(")"), [])
        self.assertEqual(stream.open_numbers(), list(range(1, 149)))
        self.assertEqual(stream.feed("c"), [(number, "in") for number in range(1, 149)] + [(149, "out")])
        stream.feed(")")
        stream.feed(")")
        self.assertEqual(len(stream.state()), 300)
        self.assertEqual(stream.open_numbers(), [])

    def test_thirty_levels(self):
        schema = parse_schema("s = a(s? t?); t = b()")
        stream = Stream(schema, parse_condition("later is b or below (later is b)"))
        for number in range(30):
            self.assertEqual(stream.feed("a"), [])
        self.assertEqual(stream.feed(")"), [])
        for number in range(28, 0, -1):
            self.assertEqual(stream.feed(")"), [(number + 1, "out")])
        self.assertEqual(stream.open_numbers(), [0, 1])
        self.assertEqual(stream.feed("b"), [(0, "in"), (1, "in"), (30, "out")])


if __name__ == "__main__":
    unittest.main()

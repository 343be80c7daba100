"""All answers about beginnings at the limits of points 3 and 13."""

import random
import re
import unittest

from soonsettled.beginnings import next_events, possible, whole
from soonsettled.conditions import parse_condition
from soonsettled.consequences import follows, satisfiable
from soonsettled.documents import document_of
from soonsettled.meaning import conforms, holding
from soonsettled.schemas import parse_schema
from soonsettled.settling import end_with, forced, least_end, settled
from soonsettled.stream import Stream
from tests.listed import tuples_in
from tests.samples import LOOKS

EVENTS = 300
LEVELS = 30
# Six types and sixteen words in contents each.
SCHEMAS = [
    "s=a((s|t|u|v|w|x)*);t=a((s|t)*);u=a((u|s)*);v=a((v|t)*);w=b((w|s)*);x=a(x* t)",
    "s=a((s|t|u)*);t=b((u v?)*);u=c(v* w?);v=a(s? x? t?);w=b(s* u);x=c(x? t* w? v*)",
    "s=a(s? t? u? v? w? x? s? t? u? v?);t=a(s* t);u=b(t?);v=b(s?);w=a(w);x=a(s?)",
    "s=a((s t|t s)* u?);t=a(v*|s);u=b(u|v|());v=b(v v|s|());w=r(w? s);x=c(w x*)",
    "s=a((s|s|t|t|u)*);t=a((v|w)* x?);u=a((w|v)* t?);v=b(s?);w=c(s* v?);x=a((s|u)*)",
]
# Twelve tuples and four looks each.
CONDITIONS = [
    "below (is b and below is a) or below (is c and below is a) or none",
    "child (is a and later (is b or is a)) and later child not is b",
    "not (above (is a and later is b) or earlier (is b or parent is a))",
    "later (is b and later (is a and later (is b and later not is a)))",
    "earlier (is a and later is b) and (below later is b or is a or is c)",
    "child child (is a and child is b) and not child not not is a",
]


def beginning(source, schema):
    """Returns a possible beginning of that many events and levels, or the last that was not whole before."""
    stream = Stream(schema, ("all",))
    depth = 0
    while len(stream.state()) < EVENTS:
        coming = stream.next_events()
        if ")" in coming and len(coming) > 1:
            # Down to the last level and up again, without an end of the document.
            coming = [")"] if depth == LEVELS else coming[1:] if depth == 1 or source.random() < 0.6 else [")"]
        event = source.choice(coming)
        if depth == LEVELS and event != ")" or depth == 1 and event == ")":
            break
        stream.feed(event)
        depth += -1 if event == ")" else 1
    return list(stream.state())


class LimitsTest(unittest.TestCase):

    def samples(self):
        """Yields each schema with each condition and a long beginning."""
        source = random.Random(13)
        for text in SCHEMAS:
            schema = parse_schema(text)
            events = beginning(source, schema)
            for condition in CONDITIONS:
                with self.subTest(schema=text, condition=condition):
                    yield schema, parse_condition(condition), events

    def test_the_limits(self):
        longest = deepest = 0
        for schema, condition, events in self.samples():
            self.assertEqual(len(schema), 6)
            self.assertEqual(len(re.findall("'type'", str(schema))), 16)
            self.assertEqual(len(tuples_in(condition)), 12)
            self.assertEqual(len([part for part in tuples_in(condition) if part[0] in LOOKS]), 4)
            longest = max(longest, len(events))
            deepest = max(deepest, max(map(len, depths_of(events))))
        self.assertEqual((longest, deepest), (EVENTS, LEVELS))

    def test_what_is_told(self):
        for schema, condition, events in self.samples():
            stream = Stream(schema, condition)
            for event in events:
                stream.feed(event)
            told = settled(schema, condition, events)
            self.assertEqual([stream.told(number) for number in range(len(told))], told)
            self.assertEqual(stream.next_events(), next_events(schema, events))
            end = least_end(schema, events)
            document = document_of(events + end)
            self.assertTrue(conforms(schema, document))
            self.assertIs(whole(schema, events + end), True)
            numbers = holding(condition, document)
            for number, answer in enumerate(told):
                self.assertIn(answer, ("open", "in" if number in numbers else "out"))
            for event in stream.next_events():
                self.assertIs(possible(schema, events + [event]), True)
            self.assertEqual(end[:len(forced(schema, events))], forced(schema, events))

    def test_ends(self):
        for schema, condition, events in self.samples():
            told = settled(schema, condition, events)
            opened = [number for number, answer in enumerate(told) if answer == "open"]
            for number in opened[:2] + opened[-2:] + [0, len(told) - 1]:
                for holds, alone in [(True, "in"), (False, "out")]:
                    end = end_with(schema, condition, events, number, holds)
                    self.assertEqual(end is not None, told[number] in (alone, "open"))
                    if end is not None:
                        document = document_of(events + end)
                        self.assertTrue(conforms(schema, document))
                        self.assertIs(number in holding(condition, document), holds)

    def test_consequences(self):
        found = 0
        for schema, condition, _ in self.samples():
            self.assertIsNone(follows(schema, condition, ("or", (("none",), ("all",)))))
            answer = satisfiable(schema, condition)
            self.assertEqual(follows(schema, condition, ("none",)), answer)
            if answer is not None:
                found += 1
                document = document_of(answer[0])
                self.assertTrue(conforms(schema, document))
                self.assertEqual(holding(condition, document)[0], answer[1])
        self.assertGreater(found, 20)


def depths_of(events):
    """Returns the list of the names that are open behind each event."""
    names = []
    found = []
    for event in events:
        names = names[:-1] if event == ")" else names + [event]
        found.append(names)
    return found


if __name__ == "__main__":
    unittest.main()

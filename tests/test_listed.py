"""All answers about beginnings, settling, streams and consequences against lists of all documents."""

import random
import unittest

from soonsettled.beginnings import next_events, possible, whole
from soonsettled.consequences import follows, satisfiable
from soonsettled.documents import document_of
from soonsettled.errors import NotPossible
from soonsettled.meaning import conforms, holding
from soonsettled.settling import end_with, forced, least_end, settled
from soonsettled.stream import Stream
from tests.listed import (
    Listed, count_of, difference, documents_up_to, few_documents, finite_schema, looks_in, random_looks, told_of,
)
from tests.samples import random_schema

EVENTS = [")", "a", "b", "c", "abcdefgh"]


class FewDocumentsTest(unittest.TestCase):
    """Schemas all of whose documents are listed."""

    def sources(self, seed, many):
        """Yields (schema, condition, listed) that many times."""
        source = random.Random(seed)
        while many > 0:
            schema = finite_schema(source)
            documents = few_documents(schema)
            if documents is not None and (len(documents) > 3 or source.random() < 0.2):
                condition = random_looks(source)
                many -= 1
                yield schema, condition, Listed(documents, condition)

    def check_impossible(self, schema, condition, events):
        self.assertIs(possible(schema, events), False)
        calls = [
            lambda: next_events(schema, events), lambda: whole(schema, events), lambda: least_end(schema, events),
            lambda: forced(schema, events), lambda: settled(schema, condition, events),
            lambda: end_with(schema, condition, events, 0, True),
            lambda: end_with(schema, condition, events, 0, False),
        ]
        for call in calls:
            with self.assertRaises(NotPossible):
                call()

    def check_beginning(self, schema, condition, listed, events):
        ends = [end for end, _ in listed.with_beginning(events)]
        following = listed.next_events(events)
        self.assertIs(possible(schema, events), True)
        self.assertEqual(next_events(schema, events), following)
        self.assertIs(whole(schema, events), events in listed.documents)
        self.assertEqual(least_end(schema, events), ends[0])
        self.assertEqual(forced(schema, events), listed.forced(events))
        self.assertEqual(settled(schema, condition, events), listed.settled(events))
        for number in range(count_of(events)):
            for holds in (True, False):
                self.assertEqual(
                    end_with(schema, condition, events, number, holds), listed.end_with(events, number, holds))
        for event in EVENTS:
            if event not in following:
                self.check_impossible(schema, condition, events + [event])

    def test_each_beginning_and_each_further_event(self):
        for schema, condition, listed in self.sources(1, 60):
            with self.subTest(schema=schema, condition=condition):
                if not listed.documents:
                    self.check_impossible(schema, condition, [])
                for events in listed.beginnings():
                    self.check_beginning(schema, condition, listed, list(events))

    def test_streams_at_each_event(self):
        for schema, condition, listed in self.sources(2, 100):
            with self.subTest(schema=schema, condition=condition):
                if not listed.documents:
                    with self.assertRaises(NotPossible):
                        Stream(schema, condition)
                for events in listed.documents:
                    self.check_stream(Stream(schema, condition), listed, events)

    def check_stream(self, stream, listed, events):
        before = []
        for size in range(len(events)):
            self.assertEqual(stream.next_events(), listed.next_events(events[:size]))
            self.assertEqual(stream.state(), tuple(events[:size]))
            for event in EVENTS:
                if event not in listed.next_events(events[:size]):
                    with self.assertRaises(NotPossible):
                        stream.feed(event)
            now = listed.settled(events[:size + 1])
            news = [(number, now[number]) for number in range(len(now))
                    if now[number] != "open" and (number >= len(before) or before[number] == "open")]
            self.assertEqual(stream.feed(events[size]), news)
            self.assertEqual([stream.told(number) for number in range(len(now))], now)
            self.assertEqual(stream.open_numbers(), [k for k, told in enumerate(now) if told == "open"])
            before = now
        self.assertEqual(stream.next_events(), [])
        self.assertEqual(stream.state(), tuple(events))
        self.assertEqual(stream.open_numbers(), [])

    def test_consequences(self):
        source = random.Random(3)
        met = {True: 0, False: 0}
        for schema, condition, listed in self.sources(4, 250):
            with self.subTest(schema=schema, condition=condition):
                self.assertEqual(satisfiable(schema, condition), listed.satisfiable())
                second = random_looks(source, 4)
                if len(looks_in(condition) | looks_in(second)) <= 4:
                    both = Listed(listed.documents, difference(condition, second))
                    self.assertEqual(follows(schema, condition, second), both.satisfiable())
                    met[both.satisfiable() is None] += 1
        self.assertGreater(min(met.values()), 15)


class ManyDocumentsTest(unittest.TestCase):
    """Schemas with documents without number, of which those up to some number of elements are listed."""

    MOST = 6

    def sources(self, seed, many):
        source = random.Random(seed)
        while many > 0:
            schema = random_schema(source)
            documents = documents_up_to(schema, self.MOST)
            if 3 < len(documents) < 400:
                condition = random_looks(source)
                many -= 1
                yield schema, condition, Listed(documents, condition), source

    def check_end(self, schema, condition, events, number, holds, listed):
        """Returns whether there is an end with which this is so; it is compared with those that are listed."""
        end = end_with(schema, condition, events, number, holds)
        expected = listed.end_with(events, number, holds)
        if expected is not None or end is None:
            self.assertEqual(end, expected)
        else:
            document = document_of(events + end)
            self.assertGreater(len(events + end), 2 * self.MOST)
            self.assertTrue(conforms(schema, document))
            self.assertIs(number in holding(condition, document), holds)
        return end is not None

    def check_beginning(self, schema, condition, listed, events):
        ends = [end for end, _ in listed.with_beginning(events)]
        self.assertIs(possible(schema, events), True)
        self.assertIs(whole(schema, events), events in listed.documents)
        self.assertEqual(least_end(schema, events), ends[0])
        following = next_events(schema, events)
        self.assertEqual(following, sorted(following))
        self.assertLessEqual(set(listed.next_events(events)), set(following))
        for event in EVENTS:
            if event in following:
                end = least_end(schema, events + [event])
                self.assertTrue(conforms(schema, document_of(events + [event] + end)))
        forced_events = forced(schema, events)
        self.assertEqual(listed.forced(events)[:len(forced_events)], forced_events)
        self.assertNotEqual(len(next_events(schema, events + forced_events)), 1)
        answers = settled(schema, condition, events)
        self.assertEqual(settled(schema, condition, events + forced_events)[:len(answers)], answers)
        for number, told in enumerate(answers):
            can_hold = self.check_end(schema, condition, events, number, True, listed)
            can_fail = self.check_end(schema, condition, events, number, False, listed)
            self.assertEqual((can_hold, can_fail), {"in": (True, False), "out": (False, True)}.get(told, (True, True)))

    def test_each_beginning(self):
        for schema, condition, listed, source in self.sources(5, 150):
            with self.subTest(schema=schema, condition=condition):
                beginnings = listed.beginnings()
                for events in source.sample(beginnings, min(len(beginnings), 12)):
                    self.check_beginning(schema, condition, listed, list(events))

    def test_streams(self):
        for schema, condition, listed, source in self.sources(6, 150):
            with self.subTest(schema=schema, condition=condition):
                events = source.choice(listed.documents)
                stream = Stream(schema, condition)
                told = {}
                for size, event in enumerate(events):
                    for number, answer in stream.feed(event):
                        self.assertNotIn(number, told)
                        told[number] = answer
                    answers = settled(schema, condition, events[:size + 1])
                    self.assertEqual([told.get(k, "open") for k in range(len(answers))], answers)
                numbers = holding(condition, document_of(events))
                self.assertEqual(told, {k: told_of([k in numbers]) for k in range(count_of(events))})

    def test_satisfiable(self):
        for schema, condition, listed, _ in self.sources(7, 300):
            with self.subTest(schema=schema, condition=condition):
                found = satisfiable(schema, condition)
                if listed.satisfiable() is not None or found is None:
                    self.assertEqual(found, listed.satisfiable())
                else:
                    document = document_of(found[0])
                    self.assertGreater(len(found[0]), 2 * self.MOST)
                    self.assertTrue(conforms(schema, document))
                    self.assertEqual(holding(condition, document)[0], found[1])


if __name__ == "__main__":
    unittest.main()

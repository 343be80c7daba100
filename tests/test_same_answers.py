"""The same answers however schemas and conditions are said (points 3, 5 to 9, 11, 12, 14 to 16)."""

import random
import unittest

from soonsettled.beginnings import next_events, possible
from soonsettled.conditions import parse_condition, print_condition
from soonsettled.consequences import follows, satisfiable
from soonsettled.documents import events_of, print_events, read_events
from soonsettled.life import living
from soonsettled.schemas import parse_schema, print_schema
from soonsettled.settling import end_with, forced, least_end, settled
from soonsettled.stream import Stream
from tests.listed import count_of, random_looks, tuples_in
from tests.samples import LOOKS, random_condition, random_schema

LONGER = {"a": "aab", "b": "aabc", "c": "abcdefgh"}
TURNED = {"in": "out", "out": "in", "open": "open"}
NONE = ("none",)
ALL = ("all",)


def random_beginning(source, schema, most):
    """Returns a possible beginning of at most that many events."""
    events = []
    for _ in range(source.randint(0, most)):
        coming = next_events(schema, events)
        if not coming:
            break
        # Names more often than ends, so that the beginnings get long.
        events.append(source.choice(coming[-2:] if source.random() < 0.7 else coming))
    return events


def samples(seed, many, most_looks=4):
    """Yields (source, schema, condition, events) that many times."""
    source = random.Random(seed)
    while many > 0:
        schema = random_schema(source, "abc")
        if schema[0][0] in living(schema):
            many -= 1
            yield source, schema, random_looks(source, most_looks), random_beginning(source, schema, 12)


def answers(schema, condition, events):
    """Returns what is told of a beginning."""
    stream = Stream(schema, condition)
    return (
        next_events(schema, events), least_end(schema, events), forced(schema, events),
        settled(schema, condition, events), [stream.feed(event) for event in events],
        [end_with(schema, condition, events, number, holds)
         for number in range(count_of(events)) for holds in (True, False)],
        satisfiable(schema, condition),
    )


def change_names(value, names):
    """Returns a schema or a condition with other names of elements; types must not be among these."""
    if isinstance(value, str):
        return names.get(value, value)
    return tuple(change_names(part, names) for part in value)


def change_contents(schema, change):
    """Returns the schema with each content, and all that is in it, changed."""
    return tuple((word, name, change_content(content, change)) for word, name, content in schema)


def change_content(content, change):
    if content[0] in ("row", "choice"):
        content = (content[0], tuple(change_content(part, change) for part in content[1]))
    elif content[0] in ("many", "some", "maybe"):
        content = (content[0], change_content(content[1], change))
    return change(content)


def said_otherwise(content):
    """Returns a content with the same words, if there is one that is said easily."""
    kind = content[0]
    if kind == "some":
        inner = content[1]
        return ("row", (inner[1] if inner[0] == "row" else (inner,)) + (("many", inner),))
    if kind == "many":
        return ("maybe", ("some", content[1]))
    if kind == "maybe":
        inner = content[1]
        return ("choice", (("empty",),) + (inner[1] if inner[0] == "choice" else (inner,)))
    return content


def joined_up(content):
    """Returns the content with rows in rows and choices in choices dissolved."""
    if content[0] not in ("row", "choice"):
        return content
    parts = []
    for part in content[1]:
        parts.extend(part[1] if part[0] == content[0] else [part])
    return (content[0], tuple(parts))


def turned(content):
    """Returns a choice turned round, and every other content as it is."""
    return (content[0], content[1][::-1]) if content[0] == "choice" else content


def with_dead_choice(content):
    """Returns a content beside which the type that no element has may stand, in place of a type."""
    return ("choice", (("type", "x"), content)) if content[0] == "type" else content


class SchemasTest(unittest.TestCase):

    def check(self, schema, other, condition, events):
        with self.subTest(schema=print_schema(schema), other=print_schema(other), events=events):
            self.assertEqual(answers(other, condition, events), answers(schema, condition, events))

    def test_some_many_and_maybe_said_otherwise(self):
        for _, schema, condition, events in samples(21, 120):
            other = change_contents(schema, lambda content: joined_up(said_otherwise(content)))
            self.check(schema, other, condition, events)

    def test_choices_turned_round(self):
        for _, schema, condition, events in samples(22, 120):
            self.check(schema, change_contents(schema, turned), condition, events)

    def test_types_renamed(self):
        for source, schema, condition, events in samples(23, 120):
            words = [rule[0] for rule in schema]
            others = source.sample(["z", "y", "abcdefgh", "a", "choicy", "q"], len(words))
            names = dict(zip(words, others))
            other = tuple((names[word], name, change_names(content, names)) for word, name, content in schema)
            self.check(schema, other, condition, events)

    def test_rules_in_another_order(self):
        for source, schema, condition, events in samples(24, 120):
            other = schema[:1] + tuple(source.sample(schema[1:], len(schema) - 1))
            self.check(schema, other, condition, events)

    def test_a_type_more_that_nothing_uses(self):
        for source, schema, condition, events in samples(25, 120):
            content = source.choice([("empty",), ("many", ("type", "s")), ("type", "z"), ("maybe", ("type", "z"))])
            self.check(schema, schema + (("z", source.choice("abcd"), content),), condition, events)

    def test_a_type_that_no_element_has(self):
        for source, schema, condition, events in samples(26, 120):
            dead = ("x", source.choice("abc"), source.choice([("type", "x"), ("some", ("type", "x"))]))
            other = change_contents(schema, lambda content: joined_up(with_dead_choice(content))) + (dead,)
            self.check(schema, other, condition, events)

    def test_a_type_twice(self):
        # Each place of a type may be one of another type with the same rule.
        for _, schema, condition, events in samples(27, 80):
            copies = tuple((word + "z", name, content) for word, name, content in schema)
            other = change_contents(schema, lambda content: joined_up(twice(content))) + copies
            self.check(schema, other, condition, events)

    def test_longer_names_in_the_same_order(self):
        for _, schema, condition, events in samples(28, 120):
            longer = [LONGER.get(event, event) for event in events]
            with self.subTest(schema=schema, condition=condition, events=events):
                found = answers(change_names(schema, LONGER), change_names(condition, LONGER), longer)
                self.assertEqual(found, change_answers(answers(schema, condition, events)))

    def test_canonical_texts(self):
        for _, schema, condition, events in samples(29, 100):
            # Looks are counted as often as they stand there.
            if len([part for part in tuples_in(condition) if part[0] in LOOKS]) > 4:
                continue
            read_again = (
                parse_schema(print_schema(schema)), parse_condition(print_condition(condition)),
                read_events(print_events(events)),
            )
            self.assertEqual(read_again, (schema, condition, events))
            self.assertEqual(answers(*read_again), answers(schema, condition, events))


def twice(content):
    """Returns a content in which each type may be its copy."""
    return ("choice", (content, ("type", content[1] + "z"))) if content[0] == "type" else content


def change_answers(value):
    """Returns what is told with the longer names."""
    if isinstance(value, (list, tuple)):
        return type(value)(change_answers(part) for part in value)
    return LONGER.get(value, value) if isinstance(value, str) else value


def same_meaning(source, condition):
    """Returns a condition that means the same."""
    return source.choice([
        ("not", ("not", condition)), ("and", (condition, ALL)) if condition[0] != "and" else condition,
        ("or", (NONE, condition)) if condition[0] != "or" else condition,
        ("or", (condition, condition)) if condition[0] != "or" else condition,
        ("not", ("or", (("not", condition), NONE))), ("and", (("not", NONE), condition)),
    ])


class ConditionsTest(unittest.TestCase):

    def test_conditions_that_mean_the_same(self):
        for source, schema, condition, events in samples(31, 150):
            with self.subTest(schema=schema, condition=condition, events=events):
                other = same_meaning(source, condition)
                self.assertEqual(answers(schema, other, events), answers(schema, condition, events))

    def test_looks_that_mean_the_same(self):
        # Each of these pairs means the same at all elements of all documents.
        pairs = [(parse_condition(first), parse_condition(second)) for first, second in [
            ("below is a", "child (is a or below is a)"), ("above is a", "parent (is a or above is a)"),
            ("later later all", "later (later all)"), ("child is a or child is b", "child (is a or is b)"),
            ("not child not is a and child all", "child all and not child not is a"),
            ("later (is a or is b)", "later is b or later is a"), ("parent child is a", "parent (child is a and all)"),
            ("below below is a", "child below is a"), ("above above is a", "parent above is a"),
            ("earlier earlier all", "earlier earlier (is a or not is a)"),
        ]]
        for source, schema, _, events in samples(32, 150):
            first, second = source.choice(pairs)
            with self.subTest(schema=schema, first=first, second=second, events=events):
                self.assertEqual(answers(schema, first, events), answers(schema, second, events))
                self.assertIsNone(follows(schema, first, second))
                self.assertIsNone(follows(schema, second, first))

    def test_the_order_of_and_and_or(self):
        for source, schema, condition, events in samples(33, 100, 2):
            other = random_looks(source, 2, 3)
            for kind in ("and", "or"):
                with self.subTest(schema=schema, condition=condition, other=other, events=events):
                    self.assertEqual(
                        answers(schema, (kind, (condition, other)), events),
                        answers(schema, (kind, (other, condition)), events))

    def test_not_turns_in_and_out_round(self):
        for _, schema, condition, events in samples(34, 150):
            with self.subTest(schema=schema, condition=condition, events=events):
                told = settled(schema, condition, events)
                self.assertEqual(settled(schema, ("not", condition), events), [TURNED[answer] for answer in told])
                for number in range(len(told)):
                    for holds in (True, False):
                        self.assertEqual(end_with(schema, ("not", condition), events, number, holds),
                                         end_with(schema, condition, events, number, not holds))

    def test_and_and_or_of_two(self):
        for source, schema, first, events in samples(35, 200, 2):
            second = random_looks(source, 2, 3)
            with self.subTest(schema=schema, first=first, second=second, events=events):
                ands = settled(schema, ("and", (first, second)), events)
                ors = settled(schema, ("or", (first, second)), events)
                for one, other, both, some in zip(
                        settled(schema, first, events), settled(schema, second, events), ands, ors):
                    if "out" in (one, other):
                        self.assertEqual(both, "out")
                    self.assertEqual(both == "in", one == other == "in")
                    if "in" in (one, other):
                        self.assertEqual(some, "in")
                    self.assertEqual(some == "out", one == other == "out")

    def test_where_a_condition_follows(self):
        for source, schema, first, events in samples(36, 150, 2):
            second = ("or", (first, random_condition(source, 2)))
            with self.subTest(schema=schema, first=first, second=second, events=events):
                self.assertIsNone(follows(schema, first, second))
                for one, other in zip(settled(schema, first, events), settled(schema, second, events)):
                    if one == "in":
                        self.assertEqual(other, "in")
                    if other == "out":
                        self.assertEqual(one, "out")

    def test_impossible_beginnings_stay_so(self):
        for source, schema, _, events in samples(37, 100):
            other = change_contents(schema, lambda content: joined_up(said_otherwise(content)))
            for event in (")", "a", "b", "c", "d"):
                self.assertIs(possible(schema, events + [event]), event in next_events(schema, events))
                self.assertIs(possible(other, events + [event]), possible(schema, events + [event]))


class SettledStaysTest(unittest.TestCase):

    def test_of_longer_beginnings(self):
        for source, schema, condition, events in samples(41, 100):
            whole = events + least_end(schema, events)
            before = []
            for size in range(len(whole) + 1):
                told = settled(schema, condition, whole[:size])
                for old, new in zip(before, told):
                    self.assertIn(old, ("open", new))
                before = told
            self.assertNotIn("open", before)

    def test_a_document_and_its_events(self):
        self.assertEqual(settled(parse_schema("s = a(s*)"), parse_condition("later all"),
                                 events_of(("a", (("a", ()), ("a", ()))))), ["out", "in", "out"])


if __name__ == "__main__":
    unittest.main()

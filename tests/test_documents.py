"""Documents, their events, and the texts of beginnings (points 3 to 6 and 13)."""

import copy
import itertools
import unittest

from soonsettled.documents import document_of, events_of, print_events, read_events
from soonsettled.errors import TextError
from tests import grammar
from tests.cases import TextErrorCase
from tests.samples import all_documents, leaf


def chain_of(levels):
    """Returns a document of that many levels, an element each."""
    document = leaf("a")
    for _ in range(levels - 1):
        document = ("b", (document,))
    return document


# A document, its events, and its canonical text.
WALKS = [
    (leaf("a"), ["a", ")"], "a()"),
    (leaf("abcdefgh"), ["abcdefgh", ")"], "abcdefgh()"),
    (("a", (leaf("b"),)), ["a", "b", ")", ")"], "a(b())"),
    (("a", (leaf("b"), leaf("c"))), ["a", "b", ")", "c", ")", ")"], "a(b() c())"),
    (("a", (leaf("a"), ("a", (leaf("a"), leaf("b"))), leaf("a"))),
     ["a", "a", ")", "a", "a", ")", "b", ")", ")", "a", ")", ")"], "a(a() a(a() b()) a())"),
    (("x", (("yy", (("z", (leaf("w"),)),)), leaf("abcdefgh"))),
     ["x", "yy", "z", "w", ")", ")", ")", "abcdefgh", ")", ")"], "x(yy(z(w())) abcdefgh())"),
]


def walk(document):
    """Returns the events of a document, as point 4 words it."""
    events = [document[0]]
    for child in document[1]:
        events += walk(child)
    return events + [")"]


class EventsTest(unittest.TestCase):

    def test_example_of_the_interface(self):
        self.assertEqual(events_of(("a", (("b", ()), ("c", ())))), ["a", "b", ")", "c", ")", ")"])
        self.assertEqual(print_events(read_events(" a( b()c( ")), "a(b() c(")

    def test_walks(self):
        for document, events, text in WALKS:
            with self.subTest(text=text):
                self.assertEqual(events_of(document), events)
                self.assertEqual(document_of(events), document)
                self.assertEqual(print_events(events), text)
                self.assertEqual(read_events(text), events)

    def test_all_small_documents(self):
        for size in range(1, 6):
            for document in all_documents(size):
                events = events_of(document)
                self.assertEqual(events, walk(document))
                self.assertEqual(document_of(events), document)

    def test_kinds_of_values(self):
        document = document_of(["a", "b", ")", ")"])
        self.assertIs(type(document), tuple)
        self.assertIs(type(document[1]), tuple)
        self.assertIs(type(document[1][0]), tuple)
        self.assertIs(type(events_of(document)), list)
        self.assertIs(type(read_events("a(")), list)

    def test_many_levels(self):
        for levels in (30, 150, 400):
            document = chain_of(levels)
            events = events_of(document)
            self.assertEqual(events, ["b"] * (levels - 1) + ["a"] + [")"] * levels)
            self.assertEqual(events_of(document_of(events)), events)
            self.assertEqual(read_events(print_events(events)), events)

    def test_many_children(self):
        document = ("a", (leaf("b"),) * 149)
        events = events_of(document)
        self.assertEqual(len(events), 300)
        self.assertEqual(document_of(events), document)
        self.assertEqual(print_events(events), "a(" + " ".join(["b()"] * 149) + ")")
        self.assertEqual(read_events(print_events(events)), events)


class TextsTest(unittest.TestCase):

    def test_all_beginnings_are_printed_and_read_back(self):
        for document, events, whole in WALKS:
            for many in range(len(events) + 1):
                beginning = events[:many]
                text = print_events(beginning)
                with self.subTest(text=text):
                    self.assertTrue(whole.startswith(text))
                    self.assertEqual(read_events(text), beginning)

    def test_other_spaces(self):
        for document, events, whole in WALKS:
            for many in range(len(events) + 1):
                words = [token for token, _ in grammar.tokens(print_events(events[:many]))]
                for gap in ("", " ", "\n", " \n \n  "):
                    for text in (gap.join(words), gap + gap.join(words) + gap):
                        with self.subTest(text=text):
                            self.assertEqual(read_events(text), events[:many])

    def test_canonical_texts(self):
        for text, canonical in [
            ("", ""), (" \n ", ""), ("a(", "a("), ("a (b\n(", "a(b("), ("a()\n", "a()"),
            ("a(b()c()", "a(b() c()"), ("a(b(c()", "a(b(c()"), (" a( b( ) ) ", "a(b())"),
            ("a(b(c())d(", "a(b(c()) d("),
        ]:
            with self.subTest(text=text):
                self.assertEqual(print_events(read_events(text)), canonical)

    def test_nothing_is_a_beginning(self):
        for text in ("", " ", "\n", " \n\n  "):
            self.assertEqual(read_events(text), [])
        self.assertEqual(print_events([]), "")


class TextErrorsTest(TextErrorCase):

    read = staticmethod(read_events)

    def test_unknown_character(self):
        for text, place in [
            ("A(", 0), ("aB(", 1), ("a(b)1", 4), ("a(=", 2), ("~", 0), ("  #", 2), ("a(b() \n;", 7),
            ("a*(", 1), ("a(b|c)", 3), ("a_b(", 1), ("a+", 1), ("a?", 1), ("a-(", 1),
        ]:
            self.check(text, place, "unknown character")

    def test_unexpected_token(self):
        for text, place in [
            ("(", 0), (")", 0), ("  )", 2), ("a)", 1), ("a b(", 2), ("a(b c(", 4), ("a((", 2), ("a(b()(", 5),
            ("a())", 3), ("a()a(", 3), ("a() \n (", 6), ("a() b", 4), ("a(b)", 3), ("a(b())\n)", 7),
        ]:
            self.check(text, place, "unexpected token")

    def test_long_words(self):
        self.assertEqual(read_events("abcdefgh("), ["abcdefgh"])
        self.assertEqual(read_events("a( abcdefgh ("), ["a", "abcdefgh"])
        for text, place in [
            ("abcdefghi(", 0), ("abcdefghi", 0), ("a(b() abcdefghi()", 6), ("a abcdefghi", 2), ("a()abcdefghi", 3),
            ("a" * 100, 0),
        ]:
            self.check(text, place, "unexpected token")

    def test_unexpected_end(self):
        for text, place in [("a", 1), ("a ", 2), ("a(b", 3), ("a(b() c \n ", 10), (" abcdefgh", 9)]:
            self.check(text, place, "unexpected end")

    def test_first_error_of_the_list(self):
        for text, place, message in [
            (")#", 1, "unknown character"),
            ("a() b() A", 8, "unknown character"),
            ("abcdefghi(!", 10, "unknown character"),
            ("a(b.", 3, "unknown character"),
            ("#a$", 0, "unknown character"),
            ("a(b) c", 3, "unexpected token"),
            ("a() ) (", 4, "unexpected token"),
            ("a b", 2, "unexpected token"),
        ]:
            self.check(text, place, message)

    def test_texts_with_changed_tokens(self):
        pool = ["(", ")", "a", "abcdefghi", "=", "Z"]
        texts = ["", "a()", "a(b(", "a(b() c(", "a(b(c()) d())", "a(a() a(a() b()) a())"]
        for text in texts:
            for other in grammar.changed(text, pool):
                self.compare(other)
        for text in texts[:4]:
            for other in grammar.changed(text, pool):
                for third in grammar.changed(other, pool):
                    self.compare(third)

    def test_all_short_texts(self):
        for many in range(7):
            for row in itertools.product(["a", "(", ")", " "], repeat=many):
                self.compare("".join(row))

    def compare(self, text):
        events = self.check_against(text, grammar.events_error(text))
        if events is not None:
            self.assertEqual(events, [token for token, _ in grammar.tokens(text) if token != "("], text)


class ArgumentsTest(unittest.TestCase):

    def test_arguments_are_not_modified(self):
        for document, events, text in WALKS:
            for many in range(len(events) + 1):
                handed = events[:many]
                print_events(handed)
                self.assertEqual(handed, events[:many])
            handed = list(events)
            document_of(handed)
            self.assertEqual(handed, events)
            before = copy.deepcopy(document)
            events_of(document)
            self.assertEqual(document, before)

    def test_two_calls_return_two_lists(self):
        document = ("a", (leaf("b"),))
        first = events_of(document)
        second = events_of(document)
        self.assertIsNot(first, second)
        first.append("c")
        self.assertEqual(second, ["a", "b", ")", ")"])
        self.assertEqual(events_of(document), ["a", "b", ")", ")"])
        for text, events in [("", []), ("a(b(", ["a", "b"])]:
            first = read_events(text)
            second = read_events(text)
            self.assertIsNot(first, second)
            first.append("c")
            self.assertEqual(second, events)
            self.assertEqual(read_events(text), events)

    def test_an_error_changes_nothing(self):
        self.assertEqual(read_events("a(b("), ["a", "b"])
        with self.assertRaises(TextError):
            read_events("a(b(c")
        self.assertEqual(read_events("a(b("), ["a", "b"])


if __name__ == "__main__":
    unittest.main()

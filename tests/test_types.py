"""Elements have types (point 8)."""

import copy
import random
import unittest

from soonsettled.meaning import conforms, types_of
from soonsettled.schemas import parse_schema
from tests.samples import (
    EMPTY, S, T, all_documents, all_rows, choice, leaf, many, maybe, plain_types, random_document, random_schema, row,
    small_contents, some, words_of,
)

A = leaf("a")
B = leaf("b")
C = leaf("c")


def root(*children):
    return ("r", children)


def rows_that_fit(content, limit):
    """Returns the words, as strings of types, that a content has by types_of; s has only the element a, t only b."""
    schema = (("r", "r", content), ("s", "a", EMPTY), ("t", "b", EMPTY))
    names = {"a": "s", "b": "t"}
    found = []
    for size in range(limit + 1):
        for children in all_rows(size):
            if all(not child[1] for child in children) and types_of(schema, root(*children)) == ["r"]:
                found.append("".join(names[child[0]] for child in children))
    return found


class ContentsTest(unittest.TestCase):

    def check(self, content, words):
        with self.subTest(content=content):
            self.assertEqual(sorted(rows_that_fit(content, 3)), sorted(words))

    def test_each_content_alone(self):
        self.check(S, ["s"])
        self.check(EMPTY, [""])
        self.check(row(S, T), ["st"])
        self.check(row(S, T, S), ["sts"])
        self.check(choice(S, T), ["s", "t"])
        self.check(many(S), ["", "s", "ss", "sss"])
        self.check(some(S), ["s", "ss", "sss"])
        self.check(maybe(S), ["", "s"])

    def test_the_word_without_types(self):
        self.check(many(EMPTY), [""])
        self.check(some(EMPTY), [""])
        self.check(maybe(EMPTY), [""])
        self.check(some(many(S)), ["", "s", "ss", "sss"])
        self.check(some(maybe(S)), ["", "s", "ss", "sss"])
        self.check(many(maybe(S)), ["", "s", "ss", "sss"])
        self.check(some(row(many(S), maybe(T))), words_over("st"))
        self.check(some(choice(EMPTY, row(S, T))), ["", "st"])
        self.check(maybe(some(S)), ["", "s", "ss", "sss"])
        self.check(many(row(many(S), many(T))), words_over("st"))

    def test_rows_and_choices_with_an_empty(self):
        self.check(row(EMPTY, S), ["s"])
        self.check(row(S, EMPTY, T), ["st"])
        self.check(row(EMPTY, EMPTY), [""])
        self.check(choice(EMPTY, S), ["", "s"])
        self.check(choice(row(S, EMPTY), EMPTY), ["", "s"])
        self.check(choice(EMPTY, EMPTY), [""])
        self.check(row(choice(S, EMPTY), T), ["t", "st"])
        self.check(row(S, choice(EMPTY, T), S), ["ss", "sts"])

    def test_rows_of_what_can_be_left_out(self):
        self.check(row(maybe(S), maybe(T), maybe(S)), ["", "s", "t", "st", "ts", "ss", "sts"])
        self.check(row(many(S), T, many(S)), ["t", "st", "ts", "sst", "sts", "tss"])
        self.check(row(some(S), many(T)), ["s", "ss", "st", "sss", "sst", "stt"])
        self.check(row(S, many(T), maybe(S)), ["s", "ss", "st", "sts", "stt"])

    def test_repeated_rows_and_choices(self):
        self.check(many(row(S, T)), ["", "st"])
        self.check(some(choice(S, row(T, T))), ["s", "ss", "sss", "tt", "stt", "tts"])
        self.check(many(row(S, maybe(T))), ["", "s", "ss", "st", "sss", "sst", "sts"])
        self.check(row(many(choice(S, T)), S), [word + "s" for word in words_over("st") if len(word) < 3])

    def test_the_same_type_at_several_places(self):
        self.check(choice(row(S, T), row(S, S)), ["st", "ss"])
        self.check(row(many(S), S), ["s", "ss", "sss"])
        self.check(row(maybe(S), S, maybe(S)), ["s", "ss", "sss"])

    def test_contents_within_each_other(self):
        # Each kind within each kind, two levels deep and more, all rows of up to three children.
        for content in small_contents()[:2600]:
            words = words_of(content, 3)
            self.assertEqual(sorted(rows_that_fit(content, 3)), sorted("".join(word) for word in words), content)


def words_over(letters):
    """Returns all words of at most three of these letters."""
    words = [""]
    for _ in range(3):
        words += [word + letter for word in words for letter in letters if word + letter not in words]
    return sorted(set(words))


class TypesTest(unittest.TestCase):

    def test_several_types_one_and_none(self):
        schema = parse_schema("s = a(t*); t = a(); u = b(s u?)")
        self.assertEqual(types_of(schema, A), ["s", "t"])
        self.assertEqual(types_of(schema, ("a", (A,))), ["s"])
        self.assertEqual(types_of(schema, ("a", (A, A))), ["s"])
        self.assertEqual(types_of(schema, ("a", (("a", (A,)),))), [])
        self.assertEqual(types_of(schema, B), [])
        self.assertEqual(types_of(schema, ("b", (A,))), ["u"])
        self.assertEqual(types_of(schema, ("b", (A, ("b", (("a", (A, A)),))))), ["u"])
        self.assertEqual(types_of(schema, ("b", (A, B))), [])

    def test_the_order_of_the_rules(self):
        self.assertEqual(types_of(parse_schema("z=a();y=a();x=b();w=a(w?);v=a(v)"), A), ["z", "y", "w"])
        self.assertEqual(types_of(parse_schema("v=a(v);w=a(w?);x=b();y=a();z=a()"), A), ["w", "y", "z"])

    def test_each_child_is_of_the_type_in_its_place(self):
        # Each child is of both types or of one; only one type of each counts at a time.
        schema = parse_schema("r = r(s t); s = a(u?); t = a(u u | ()); u = b()")
        one = ("a", (B,))
        two = ("a", (B, B))
        for first, second, types in [
            (A, A, ["r"]), (one, two, ["r"]), (two, one, []), (A, two, ["r"]), (one, A, ["r"]), (two, A, []),
            (A, one, []), (one, one, []), (two, two, []),
        ]:
            self.assertEqual(types_of(schema, root(first, second)), types)
        self.assertEqual(types_of(schema, root(A)), [])
        self.assertEqual(types_of(schema, root(A, A, A)), [])

    def test_the_name_of_the_rule(self):
        schema = parse_schema("s = list(i*); i = item()")
        self.assertEqual(types_of(schema, leaf("list")), ["s"])
        self.assertEqual(types_of(schema, leaf("item")), ["i"])
        self.assertEqual(types_of(schema, leaf("s")), [])
        self.assertEqual(types_of(schema, leaf("i")), [])
        self.assertEqual(types_of(schema, leaf("lis")), [])
        self.assertEqual(types_of(schema, ("list", (leaf("item"), leaf("item")))), ["s"])
        self.assertEqual(types_of(schema, ("list", (leaf("item"), leaf("list")))), [])

    def test_documents_that_no_schema_has(self):
        schema = parse_schema("s = a(t); t = b(s)")
        for size in range(1, 5):
            for document in all_documents(size):
                self.assertEqual(types_of(schema, document), [])
                self.assertFalse(conforms(schema, document))
        self.assertEqual(types_of(schema, ("zzz", (leaf("abcdefgh"),))), [])
        self.assertEqual(types_of(parse_schema("s=a(s|t);t=b()"), ("a", (("a", (B,)), B))), [])

    def test_an_unknown_element_below_leaves_no_type(self):
        schema = parse_schema("s = a(s*)")
        self.assertEqual(types_of(schema, ("a", (A, ("a", (A, A))))), ["s"])
        self.assertEqual(types_of(schema, ("a", (A, ("a", (A, C))))), [])
        self.assertEqual(types_of(schema, ("a", (C, A))), [])

    def test_small_schemas_by_all_words(self):
        source = random.Random(8)
        documents = [document for size in range(1, 5) for document in all_documents(size)]
        for _ in range(150):
            schema = random_schema(source)
            for document in source.sample(documents, 60):
                types = plain_types(schema, document)
                self.assertEqual(types_of(schema, document), types, (schema, document))
                self.assertIs(conforms(schema, document), schema[0][0] in types)

    def test_larger_documents_by_all_words(self):
        source = random.Random(80)
        for _ in range(400):
            schema = random_schema(source)
            document = random_document(source, 4)
            self.assertEqual(types_of(schema, document), plain_types(schema, document), (schema, document))


class ConformsTest(unittest.TestCase):

    def test_start_type(self):
        schema = parse_schema("s = a(t*); t = b()")
        self.assertIs(conforms(schema, A), True)
        self.assertIs(conforms(schema, ("a", (B, B))), True)
        self.assertIs(conforms(schema, B), False)
        self.assertIs(conforms(schema, ("a", (A,))), False)
        self.assertIs(conforms(schema, C), False)

    def test_the_right_name_but_another_type(self):
        schema = parse_schema("s = a(t); t = a()")
        self.assertEqual(types_of(schema, A), ["t"])
        self.assertIs(conforms(schema, A), False)
        self.assertEqual(types_of(schema, ("a", (A,))), ["s"])
        self.assertIs(conforms(schema, ("a", (A,))), True)

    def test_the_start_type_beside_another_one(self):
        schema = parse_schema("s = a(); t = a(t*)")
        self.assertEqual(types_of(schema, A), ["s", "t"])
        self.assertIs(conforms(schema, A), True)


class LimitsTest(unittest.TestCase):

    def test_many_levels(self):
        schema = parse_schema("s = a(s?); t = b(s t | t)")
        for levels in (30, 150, 500):
            document = A
            for _ in range(levels - 1):
                document = ("a", (document,))
            self.assertEqual(types_of(schema, document), ["s"])

    def test_many_children_and_nested_signs(self):
        text = "r = r(" + "(" * 50 + "s" + "*)+)" * 25 + "?); s = a()"
        schema = parse_schema(text)
        self.assertIs(conforms(schema, root(*[A] * 149)), True)
        self.assertIs(conforms(schema, root(*[A] * 148, B)), False)
        schema = parse_schema("r = r((s? s? s? s? s? s? s?)* (s* s*)* (s+ s?)+ (s | s s)*); s = a()")
        self.assertIs(conforms(schema, root(*[A] * 149)), True)
        self.assertIs(conforms(schema, root(*[A] * 148, C)), False)
        self.assertIs(conforms(schema, root()), False)

    def test_many_empties(self):
        schema = parse_schema("r = r(" + "()* " * 200 + "s " + "(() | ()?)+ " * 80 + "s?); s = a()")
        self.assertEqual(types_of(schema, root(A)), ["r"])
        self.assertEqual(types_of(schema, root(A, A)), ["r"])
        self.assertEqual(types_of(schema, root(A, A, A)), [])
        self.assertEqual(types_of(schema, root()), [])

    def test_sixteen_words_and_six_rules(self):
        schema = parse_schema("r=r((s t|t s)* u v);s=a(u?);t=a(v?|s);u=b(u|v|());v=b(v v|u|());w=r(r w?)")
        inner = ("a", (("b", (B,)),))
        self.assertEqual(types_of(schema, root(A, inner, inner, A, B, B)), ["r"])
        self.assertEqual(types_of(schema, root(A, inner, inner, B, B)), [])
        self.assertEqual(types_of(schema, root(root(B, B))), ["w"])

    def test_arguments_are_not_modified_and_calls_return_new_lists(self):
        schema = parse_schema("s = a(t*); t = a(); u = b(s u?)")
        document = ("b", (A, ("b", (A,))))
        before = copy.deepcopy((schema, document))
        first = types_of(schema, document)
        second = types_of(schema, document)
        self.assertIs(type(first), list)
        self.assertIsNot(first, second)
        first.append("x")
        self.assertEqual(second, ["u"])
        self.assertEqual(types_of(schema, document), ["u"])
        self.assertEqual((schema, document), before)
        self.assertIsNot(types_of(schema, C), types_of(schema, C))


if __name__ == "__main__":
    unittest.main()

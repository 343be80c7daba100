"""Types that have elements, and the least sizes of these (point 8)."""

import copy
import random
import unittest

from soonsettled.documents import events_of
from soonsettled.life import least_sizes, living
from soonsettled.schemas import parse_schema
from tests.samples import all_documents, plain_types, random_schema


def sizes_by_trial(schema, most):
    """Returns the least number of events of each type, found among all documents of at most that many elements."""
    found = {}
    for size in range(1, most + 1):
        for document in all_documents(size):
            for word in plain_types(schema, document):
                found.setdefault(word, len(events_of(document)))
    return found


class LifeTest(unittest.TestCase):

    def check(self, text, sizes):
        with self.subTest(text=text):
            schema = parse_schema(text)
            types = [rule[0] for rule in schema if rule[0] in sizes]
            self.assertEqual(least_sizes(schema), sizes)
            self.assertEqual(list(least_sizes(schema)), types)
            self.assertEqual(living(schema), types)

    def test_types_that_only_need_each_other(self):
        self.check("s = a(s)", {})
        self.check("s = a(t); t = b(s)", {})
        self.check("s = a(t); t = b(u); u = c(s)", {})
        self.check("s = a(s s | t); t = b(t+ | s)", {})
        self.check("s = a((() | s*) t); t = b(() s)", {})
        self.check("s = a(s (s | ())+)", {})

    def test_beside_types_that_have_elements(self):
        self.check("s = a(t); t = b(s); u = c()", {"u": 2})
        self.check("u = c(); s = a(t); t = b(s)", {"u": 2})
        self.check("s = a(u t); t = b(s | u s); u = c(v); v = d()", {"u": 4, "v": 2})
        self.check("s = a(t | u); t = b(s t); u = c()", {"s": 4, "u": 2})
        self.check("s = a(t* u); t = b(t); u = c(t?)", {"s": 4, "u": 2})
        self.check("s = a(t+); t = b(t)", {})
        self.check("s = a(t+ | t*); t = b(t)", {"s": 2})
        self.check("x = a(y); y = b(x); w = a(z); z = b()", {"w": 4, "z": 2})

    def test_elements_that_stand_nowhere_in_a_document(self):
        self.check("s = a(); t = b(t | u); u = c()", {"s": 2, "t": 4, "u": 2})
        self.check("s = a(s); t = b()", {"t": 2})

    def test_each_content(self):
        self.check("s = a(); t = b(s)", {"s": 2, "t": 4})
        self.check("s = a(); t = b(s s s)", {"s": 2, "t": 8})
        self.check("s = a(); t = b(s); u = c(t | s | t t)", {"s": 2, "t": 4, "u": 4})
        self.check("s = a(); t = b(s*)", {"s": 2, "t": 2})
        self.check("s = a(); t = b(s+)", {"s": 2, "t": 4})
        self.check("s = a(); t = b(s?)", {"s": 2, "t": 2})
        self.check("s = a(); t = b(() s)", {"s": 2, "t": 4})
        self.check("s = a(); t = b(s | ())", {"s": 2, "t": 2})
        self.check("s = a(()*); t = b(()+); u = c(()?)", {"s": 2, "t": 2, "u": 2})
        self.check("s = a(s*); t = b(t?); u = c(u+ | s)", {"s": 2, "t": 2, "u": 4})

    def test_nested_contents(self):
        self.check("s = a(); t = b((s s)+ s?)", {"s": 2, "t": 6})
        self.check("s = a(); t = b((s s | s s s) (s | s s))", {"s": 2, "t": 8})
        self.check("s = a(); t = b((s+)* (s*)+)", {"s": 2, "t": 2})
        self.check("s = a(); t = b(((s | t)+ s)+)", {"s": 2, "t": 6})
        self.check("s = a(s (s s)* | ()); t = b((s | s s)? (s+ | t))", {"s": 2, "t": 4})

    def test_by_way_of_other_rules(self):
        self.check("s = a(t); t = b(u); u = c(v); v = d(w); w = e(x); x = f()",
                   {"s": 12, "t": 10, "u": 8, "v": 6, "w": 4, "x": 2})
        self.check("x = f(); w = e(x); v = d(w); u = c(v); t = b(u); s = a(t)",
                   {"s": 12, "t": 10, "u": 8, "v": 6, "w": 4, "x": 2})
        self.check("s = a(s | t); t = b(s | u); u = c()", {"s": 6, "t": 4, "u": 2})

    def test_a_size_that_is_found_first_is_not_always_the_least(self):
        # The rules in this order first tell a larger size of s, by v alone.
        self.check("v = d(); s = a(v v v v | t); t = b()", {"v": 2, "s": 4, "t": 2})
        self.check("w = a(v v v v v); v = d(u u u | t); u = c(); t = b(x); x = e()",
                   {"w": 32, "v": 6, "u": 2, "t": 4, "x": 2})
        self.check("u = c(); v = d(u u u | t); w = a(v v); t = b(x?); x = e(w | x)",
                   {"u": 2, "v": 4, "w": 10, "t": 2, "x": 12})

    def test_large_sizes(self):
        self.check("s=a(t t t);t=a(u u u);u=a(v v v);v=a(w w w);w=a(x x x);x=a()",
                   {"s": 728, "t": 242, "u": 80, "v": 26, "w": 8, "x": 2})

    def test_an_element_of_a_size_may_have_children_of_several_types(self):
        self.check("s = a(t u); t = b(); u = b(t)", {"s": 8, "t": 2, "u": 4})

    def test_small_schemas_by_trial(self):
        source = random.Random(88)
        for _ in range(40):
            schema = random_schema(source)
            sizes = least_sizes(schema)
            tried = sizes_by_trial(schema, 5)
            self.assertEqual({word: sizes[word] for word in sizes if sizes[word] <= 10}, tried, schema)
            self.assertEqual(living(schema), [rule[0] for rule in schema if rule[0] in sizes])

    def test_many_empties_and_deep_contents(self):
        deep = "(" * 55 + "s" + "+)" * 55
        self.check("s = a(); t = b(" + deep + ")", {"s": 2, "t": 4})
        self.check("t = b(" + "()* " * 400 + "s); s = a()", {"s": 2, "t": 4})

    def test_arguments_are_not_modified_and_calls_return_new_values(self):
        schema = parse_schema("s = a(t | u); t = b(s t); u = c()")
        before = copy.deepcopy(schema)
        sizes = least_sizes(schema)
        self.assertIs(type(sizes), dict)
        sizes["t"] = 1
        self.assertEqual(least_sizes(schema), {"s": 4, "u": 2})
        types = living(schema)
        self.assertIs(type(types), list)
        types.append("t")
        self.assertEqual(living(schema), ["s", "u"])
        self.assertEqual(schema, before)


if __name__ == "__main__":
    unittest.main()

"""Conditions hold at elements (point 11)."""

import copy
import random
import unittest

from soonsettled.conditions import parse_condition
from soonsettled.meaning import holding
from tests.samples import LOOKS, all_documents, leaf, plain_holding, random_condition, random_document, small_conditions

# The numbers of its elements: a 0, b 1, c 2, b 3, a 4, b 5, c 6, a 7.
TREE = ("a", (
    ("b", (leaf("c"), leaf("b"))),
    ("a", (("b", (leaf("c"),)),)),
    leaf("a"),
))
# A document of four levels with a single child each.
CHAIN = ("a", (("b", (("c", (leaf("a"),)),)),))
ROW = ("a", (leaf("b"), leaf("c"), leaf("b"), leaf("a")))


class HoldingTest(unittest.TestCase):

    def check(self, document, cases):
        for text, numbers in cases:
            with self.subTest(text=text):
                self.assertEqual(holding(parse_condition(text), document), numbers)

    def test_all_none_and_names(self):
        self.check(TREE, [
            ("all", [0, 1, 2, 3, 4, 5, 6, 7]), ("none", []), ("is a", [0, 4, 7]), ("is b", [1, 3, 5]), ("is c", [2, 6]),
            ("is d", []), ("is aa", []), ("is all", []),
        ])

    def test_not_and_or(self):
        self.check(TREE, [
            ("not all", []), ("not none", [0, 1, 2, 3, 4, 5, 6, 7]), ("not is a", [1, 2, 3, 5, 6]),
            ("not not is a", [0, 4, 7]),
            ("is a and is b", []), ("is a or is b", [0, 1, 3, 4, 5, 7]),
            ("is a or is b or is c", [0, 1, 2, 3, 4, 5, 6, 7]),
            ("all and is c", [2, 6]), ("all and is c and none", []), ("none or is c", [2, 6]), ("none or none", []),
            ("not (is a or is b)", [2, 6]), ("not is a and not is b", [2, 6]),
            ("(is a or is b) and not is b", [0, 4, 7]),
        ])

    def test_child(self):
        self.check(TREE, [
            ("child all", [0, 1, 4, 5]), ("child none", []), ("child is a", [0]), ("child is b", [0, 1, 4]),
            ("child is c", [1, 5]), ("not child all", [2, 3, 6, 7]), ("child not is a", [0, 1, 4, 5]),
            ("child child is c", [0, 4]), ("child (is b and child is b)", [0]),
        ])

    def test_below(self):
        self.check(TREE, [
            ("below all", [0, 1, 4, 5]), ("below none", []), ("below is a", [0]), ("below is b", [0, 1, 4]),
            ("below is c", [0, 1, 4, 5]), ("below below is c", [0, 4]), ("not below is c", [2, 3, 6, 7]),
        ])

    def test_parent(self):
        self.check(TREE, [
            ("parent all", [1, 2, 3, 4, 5, 6, 7]), ("parent none", []), ("parent is a", [1, 4, 5, 7]),
            ("parent is b", [2, 3, 6]), ("parent is c", []), ("parent parent all", [2, 3, 5, 6]),
            ("not parent all", [0]), ("parent not is a", [2, 3, 6]), ("not parent is a", [0, 2, 3, 6]),
        ])

    def test_above(self):
        self.check(TREE, [
            ("above all", [1, 2, 3, 4, 5, 6, 7]), ("above none", []), ("above is a", [1, 2, 3, 4, 5, 6, 7]),
            ("above is b", [2, 3, 6]), ("above is c", []), ("not above is b", [0, 1, 4, 5, 7]),
            ("above (is a and parent all)", [5, 6]), ("above above above all", [6]),
        ])

    def test_earlier(self):
        self.check(TREE, [
            ("earlier all", [3, 4, 7]), ("earlier none", []), ("earlier is a", [7]), ("earlier is b", [4, 7]),
            ("earlier is c", [3]), ("not earlier all", [0, 1, 2, 5, 6]), ("earlier earlier all", [7]),
        ])

    def test_later(self):
        self.check(TREE, [
            ("later all", [1, 2, 4]), ("later none", []), ("later is a", [1, 4]), ("later is b", [2]),
            ("later is c", []),
            ("not later all", [0, 3, 5, 6, 7]), ("later later all", [1]), ("later not is a", [2]),
        ])

    def test_first_and_last_children(self):
        self.check(ROW, [
            ("earlier all", [2, 3, 4]), ("later all", [1, 2, 3]), ("earlier is b", [2, 3, 4]), ("later is b", [1, 2]),
            ("earlier is c", [3, 4]), ("later is c", [1]), ("earlier is a", []), ("later is a", [1, 2, 3]),
            ("not earlier all and parent all", [1]), ("not later all and parent all", [4]),
            ("earlier all and later all", [2, 3]), ("is b and earlier is b", [3]), ("is b and later is b", [1]),
        ])

    def test_one_element(self):
        for look in LOOKS:
            self.check(leaf("a"), [(f"{look} all", []), (f"not {look} all", [0]), (f"{look} is a or is a", [0])])
        self.check(leaf("a"), [("all", [0]), ("none", []), ("is a", [0]), ("is b", [])])

    def test_levels(self):
        self.check(CHAIN, [
            ("child is c", [1]), ("below is c", [0, 1]), ("parent is b", [2]), ("above is b", [2, 3]),
            ("below is a", [0, 1, 2]),
            ("above is a", [1, 2, 3]), ("earlier all", []), ("later all", []), ("child child child is a", [0]),
            ("parent parent parent is a", [3]), ("child parent is a", [0]), ("parent child is b", [1]),
        ])

    def test_looks_within_looks(self):
        self.check(TREE, [
            ("later child is b", [1]), ("earlier child is b", [4, 7]), ("child later is a", [0]),
            ("child earlier is c", [1]),
            ("parent later is a", [2, 3, 5]), ("parent earlier is b", [5]), ("above earlier is b", [5, 6]),
            ("below later is b", [0, 1]), ("not below (is c and later all)", [2, 3, 4, 5, 6, 7]),
        ])

    def test_all_small_conditions_by_paths(self):
        source = random.Random(11)
        documents = [document for size in range(1, 6) for document in all_documents(size)] + [TREE, CHAIN, ROW]
        for condition in small_conditions():
            for document in source.sample(documents, 4) + [ROW]:
                self.assertEqual(holding(condition, document), plain_holding(condition, document),
                (condition, document))

    def test_all_small_documents_by_paths(self):
        conditions = [(look, ("is", "a")) for look in LOOKS] + [("and", ((look, ("all",)),
        ("is", "b"))) for look in LOOKS]
        for size in range(1, 5):
            for document in all_documents(size):
                for condition in conditions:
                    self.assertEqual(holding(condition, document), plain_holding(condition, document))

    def test_large_conditions_by_paths(self):
        source = random.Random(111)
        for _ in range(500):
            condition = random_condition(source, 4)
            document = random_document(source, 4)
            self.assertEqual(holding(condition, document), plain_holding(condition, document), (condition, document))


class LimitsTest(unittest.TestCase):

    def test_many_levels_and_children(self):
        for many in (30, 149, 500):
            chain = leaf("b")
            for _ in range(many):
                chain = ("a", (chain,))
            self.assertEqual(holding(parse_condition("below is b"), chain), list(range(many)))
            self.assertEqual(holding(parse_condition("child is b"), chain), [many - 1])
            self.assertEqual(holding(parse_condition("above not parent all"), chain), list(range(1, many + 1)))
            self.assertEqual(holding(parse_condition("above above all"), chain), list(range(2, many + 1)))
            row = ("a", (leaf("c"),) * many + (leaf("b"),))
            self.assertEqual(holding(parse_condition("later is b"), row), list(range(1, many + 1)))
            self.assertEqual(holding(parse_condition("earlier is c"), row), list(range(2, many + 2)))
            self.assertEqual(holding(parse_condition("earlier earlier is c"), row), list(range(3, many + 2)))

    def test_arguments_are_not_modified_and_calls_return_new_lists(self):
        condition = parse_condition("is b and (later is a or not child all)")
        before = copy.deepcopy((condition, TREE))
        first = holding(condition, TREE)
        second = holding(condition, TREE)
        self.assertIs(type(first), list)
        self.assertEqual(first, [1, 3])
        self.assertEqual([type(number) for number in first], [int, int])
        self.assertIsNot(first, second)
        first.append(9)
        self.assertEqual(second, [1, 3])
        self.assertEqual(holding(condition, TREE), [1, 3])
        self.assertEqual((condition, TREE), before)


if __name__ == "__main__":
    unittest.main()

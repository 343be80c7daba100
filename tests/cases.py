"""What several tests of texts share."""

import unittest

from soonsettled.errors import SettleError, TextError


class TextErrorCase(unittest.TestCase):
    """Compares errors of texts with those that are expected of the function self.read, which a subclass sets."""

    def check(self, text, place, message):
        with self.subTest(text=text):
            with self.assertRaises(TextError) as caught:
                self.read(text)
            error = caught.exception
            self.assertEqual((error.place, error.message), (place, message))
            self.assertEqual(str(error), f"{message} at {place}")
            self.assertIsInstance(error, SettleError)

    def check_all(self, message, cases):
        for text, place in cases:
            self.check(text, place, message)

    def check_unchanged(self, text, wrong_texts):
        """Compares what a text is read as before and after errors of other ones."""
        before = self.read(text)
        for wrong in wrong_texts:
            with self.assertRaises(TextError):
                self.read(wrong)
            self.assertEqual(self.read(text), before)

    def check_against(self, text, expected):
        """Compares the error of a text with (place, message), or returns what it is read as if that is None."""
        if expected:
            self.check(text, expected[0], expected[1])
            return None
        return self.read(text)


def without_a_pair(text):
    """Returns the texts that come of leaving out two parentheses that belong together."""
    texts = []
    begun = []
    for at, char in enumerate(text):
        if char == "(":
            begun.append(at)
        elif char == ")":
            first = begun.pop()
            texts.append(text[:first] + " " + text[first + 1:at] + " " + text[at + 1:])
    return texts

"""The classes of soonsettled/errors.py."""

import unittest

from soonsettled.errors import NotPossible, SettleError, TextError


class ErrorsTest(unittest.TestCase):

    def test_bases(self):
        self.assertEqual(SettleError.__bases__, (ValueError,))
        self.assertEqual(TextError.__bases__, (SettleError,))
        self.assertEqual(NotPossible.__bases__, (SettleError,))

    def test_text_error(self):
        error = TextError(7, "unexpected token")
        self.assertEqual(error.place, 7)
        self.assertEqual(error.message, "unexpected token")
        self.assertEqual(str(error), "unexpected token at 7")

    def test_text_error_at_the_first_character(self):
        self.assertEqual(str(TextError(0, "unexpected end")), "unexpected end at 0")

    def test_not_possible(self):
        with self.assertRaises(SettleError) as caught:
            raise NotPossible("no document begins so")
        self.assertIsInstance(caught.exception, NotPossible)
        self.assertNotIsInstance(caught.exception, TextError)


if __name__ == "__main__":
    unittest.main()

"""Tests of vouchdoor.errors: point [1] and the interface of the errors."""

import unittest

from vouchdoor.errors import BadGroup, BadOpening, BadQuestion, BadRequest, BadText, BadTurn, VouchError

WITH_WHAT = [BadGroup, BadRequest, BadQuestion, BadTurn]
ALL = WITH_WHAT + [BadText, BadOpening]


class ErrorsTest(unittest.TestCase):

    def test_base_class_is_a_value_error(self):
        self.assertTrue(issubclass(VouchError, ValueError))

    def test_every_error_is_a_vouch_error(self):
        for error in ALL:
            self.assertTrue(issubclass(error, VouchError), error)
            self.assertIsNot(error, VouchError)

    def test_none_is_a_base_class_of_another_one(self):
        for one in ALL:
            for other in ALL:
                if one is not other:
                    self.assertFalse(issubclass(one, other), (one, other))

    def test_what_is_kept(self):
        for error in WITH_WHAT:
            for what in ["p", "asked", 0, 3]:
                raised = error(what)
                self.assertEqual(raised.what, what)
                self.assertIs(type(raised.what), type(what))

    def test_what_belongs_to_the_object(self):
        for error in WITH_WHAT:
            one, other = error("one"), error("other")
            self.assertEqual((one.what, other.what), ("one", "other"))

    def test_at_is_kept(self):
        for at in [0, 1, 17]:
            self.assertEqual(BadText(at).at, at)

    def test_caught_as_vouch_error_and_as_value_error(self):
        made = [error("p") for error in WITH_WHAT] + [BadText(2), BadOpening("no relation")]
        for error in made:
            with self.assertRaises(VouchError):
                raise error
            with self.assertRaises(ValueError):
                raise error

    def test_defined_in_their_module(self):
        for error in ALL + [VouchError]:
            self.assertEqual(error.__module__, "vouchdoor.errors")


if __name__ == "__main__":
    unittest.main()

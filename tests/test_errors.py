import unittest

from stopdesk import errors
from stopdesk.errors import BadProgram, BadText, DeskError

PLAIN = ("BadCount", "BadPlace", "NoHand", "BadWish", "BadWay", "NoStop", "Full", "NoFrame", "BadNumber", "Ended")


class Errors(unittest.TestCase):
    def test_each_stands_directly_under_desk_error(self):
        for word in PLAIN + ("BadProgram", "BadText"):
            with self.subTest(word):
                self.assertEqual(getattr(errors, word).__bases__, (DeskError,))

    def test_desk_error_is_a_value_error(self):
        self.assertEqual(DeskError.__bases__, (ValueError,))

    def test_all_are_defined_in_their_file(self):
        for word in PLAIN + ("BadProgram", "BadText", "DeskError"):
            self.assertEqual(getattr(errors, word).__module__, "stopdesk.errors")

    def test_fields_are_set_on_each_object(self):
        refused = BadProgram(3, "shape")
        self.assertEqual((vars(refused)["at"], vars(refused)["why"]), (3, "shape"))
        self.assertEqual(vars(BadText(12))["place"], 12)

    def test_fields_are_set_on_what_is_raised(self):
        from stopdesk.machine import plain
        with self.assertRaises(DeskError) as caught:
            plain(((), (), ()), 0)
        self.assertEqual(vars(caught.exception), {"at": -1, "why": "cells"})


if __name__ == "__main__":
    unittest.main()

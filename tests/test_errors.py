import unittest

from ticketwrap import errors

PLAIN = ("InvalidTick", "InvalidNumber", "InvalidDigits", "TooMany", "InvalidLimit", "Contradiction", "InvalidName",
         "UnknownName")


class TestErrors(unittest.TestCase):
    def test_base_is_a_value_error(self):
        self.assertEqual(errors.HallError.__bases__, (ValueError,))

    def test_all_others_are_direct_subclasses(self):
        for name in PLAIN + ("InvalidHall", "TextFault", "InvalidCode", "InvalidOperation"):
            with self.subTest(name=name):
                self.assertEqual(getattr(errors, name).__bases__, (errors.HallError,))

    def test_plain_errors_are_raised_with_a_message(self):
        for name in PLAIN:
            with self.subTest(name=name):
                with self.assertRaises(errors.HallError) as caught:
                    raise getattr(errors, name)("why")
                self.assertEqual(str(caught.exception), "why")

    def test_attributes(self):
        error = errors.InvalidHall("takes", 4)
        self.assertEqual((error.part, error.index), ("takes", 4))
        self.assertEqual(errors.TextFault(3).line, 3)
        self.assertEqual(errors.InvalidCode(5).place, 5)
        self.assertEqual(errors.InvalidOperation(6).place, 6)


if __name__ == "__main__":
    unittest.main()

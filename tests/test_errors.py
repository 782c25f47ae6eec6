import unittest

from stampword.errors import NoName, NoPiece, NoStamp, StampError


class Errors(unittest.TestCase):
    def test_any_refusal_is_a_value_error(self):
        self.assertEqual(StampError.__bases__, (ValueError,))

    def test_each_refusal_is_a_stamp_error(self):
        for error in (NoName, NoStamp, NoPiece):
            with self.subTest(error=error.__name__):
                self.assertEqual(error.__bases__, (StampError,))
                with self.assertRaises(StampError):
                    raise error("refused")
                with self.assertRaises(ValueError):
                    raise error("refused")

    def test_no_refusal_is_taken_for_another(self):
        errors = (NoName, NoStamp, NoPiece)
        for one in errors:
            for other in errors:
                self.assertEqual(issubclass(one, other), one is other)


if __name__ == "__main__":
    unittest.main()

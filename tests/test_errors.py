import unittest

from ringdeal import errors

NAMES = ["NoKeeper", "KeeperThere", "NoShare", "NoName", "NameThere", "NoLine"]


class ErrorsTest(unittest.TestCase):
    def test_ring_error_is_a_value_error(self):
        self.assertEqual(errors.RingError.__bases__, (ValueError,))
        with self.assertRaises(ValueError):
            raise errors.RingError("refused")

    def test_each_stands_straight_under_ring_error(self):
        for name in NAMES:
            with self.subTest(name):
                self.assertEqual(getattr(errors, name).__bases__, (errors.RingError,))

    def test_none_is_under_another(self):
        for name in NAMES:
            for other in NAMES:
                if name != other:
                    with self.subTest(name=name, other=other):
                        self.assertFalse(issubclass(getattr(errors, name), getattr(errors, other)))

    def test_each_is_taken_as_itself_as_ring_error_and_as_value_error(self):
        for name in NAMES:
            for taken in [getattr(errors, name), errors.RingError, ValueError]:
                with self.subTest(name=name, taken=taken):
                    with self.assertRaises(taken):
                        raise getattr(errors, name)("refused")

    def test_ring_error_is_none_of_the_six(self):
        for name in NAMES:
            with self.subTest(name):
                self.assertFalse(issubclass(errors.RingError, getattr(errors, name)))


if __name__ == "__main__":
    unittest.main()

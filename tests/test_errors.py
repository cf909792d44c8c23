import unittest

from pilehall.errors import EmptyPile, HallError


class Errors(unittest.TestCase):
    def test_a_hall_error_is_a_value_error(self):
        self.assertEqual(HallError.__bases__, (ValueError,))

    def test_an_empty_pile_is_a_hall_error(self):
        self.assertEqual(EmptyPile.__bases__, (HallError,))


if __name__ == "__main__":
    unittest.main()

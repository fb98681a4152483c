import unittest

from pointyard.errors import BadYard, YardError


class ErrorsTest(unittest.TestCase):
    def test_bad_yard_is_a_yard_error(self):
        self.assertTrue(issubclass(BadYard, YardError))
        self.assertIsNot(BadYard, YardError)

    def test_yard_error_is_a_value_error(self):
        self.assertTrue(issubclass(YardError, ValueError))
        self.assertIsNot(YardError, ValueError)

    def test_any_refusal_is_taken_by_the_common_names(self):
        for taken in (BadYard, YardError, ValueError):
            with self.subTest(taken=taken.__name__):
                with self.assertRaises(taken):
                    raise BadYard("no such yard")


if __name__ == "__main__":
    unittest.main()

import unittest

from sharepress import errors


class Errors(unittest.TestCase):
    def test_any_refusal_is_a_value_error(self):
        self.assertTrue(issubclass(errors.PressError, ValueError))

    def test_each_refusal_stands_under_press_error_and_no_other(self):
        classes = [errors.BadModel, errors.NoShare, errors.NoBit, errors.NoBox, errors.NoLine]
        for one in classes:
            self.assertTrue(issubclass(one, errors.PressError))
            for other in classes:
                self.assertEqual(issubclass(one, other), one is other)


if __name__ == "__main__":
    unittest.main()

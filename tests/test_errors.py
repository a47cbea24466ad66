import unittest

from firstword import errors


class TestErrors(unittest.TestCase):
    def test_throw_error_stands_straight_under_value_error(self):
        self.assertEqual(errors.ThrowError.__bases__, (ValueError,))

    def test_each_refusal_stands_straight_under_throw_error(self):
        for name in ("BadSides", "BadWord", "BadThrows", "BadMany", "Within"):
            with self.subTest(name=name):
                refusal = getattr(errors, name)
                self.assertEqual(refusal.__name__, name)
                self.assertEqual(refusal.__bases__, (errors.ThrowError,))

    def test_an_error_takes_words(self):
        self.assertEqual(str(errors.Within("some words")), "some words")


if __name__ == "__main__":
    unittest.main()

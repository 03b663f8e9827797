import unittest

from grainstore.errors import BadDay, BadDays, BadDealing, BadRoom, GrainError


class Errors(unittest.TestCase):
    def test_grain_error_stands_straight_under_value_error(self):
        self.assertEqual(GrainError.__bases__, (ValueError,))

    def test_each_refusal_stands_straight_under_grain_error(self):
        for refusal in (BadDays, BadRoom, BadDealing, BadDay):
            with self.subTest(refusal=refusal.__name__):
                self.assertEqual(refusal.__bases__, (GrainError,))

    def test_each_refusal_bears_its_name(self):
        names = [refusal.__name__ for refusal in (GrainError, BadDays, BadRoom, BadDealing, BadDay)]
        self.assertEqual(names, ["GrainError", "BadDays", "BadRoom", "BadDealing", "BadDay"])

    def test_a_refusal_is_taken_as_a_grain_error_and_as_a_value_error(self):
        for refusal in (BadDays, BadRoom, BadDealing, BadDay):
            for wider in (GrainError, ValueError):
                with self.subTest(refusal=refusal.__name__, wider=wider.__name__):
                    with self.assertRaises(wider):
                        raise refusal("words")


if __name__ == "__main__":
    unittest.main()

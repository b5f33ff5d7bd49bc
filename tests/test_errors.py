import unittest

from seatturn.errors import BadRings, BadTurning, NoRank, OtherLength, SeatError

REFUSALS = (BadTurning, OtherLength, BadRings, NoRank)


class ClassTree(unittest.TestCase):
    def test_seat_error_stands_under_value_error(self):
        self.assertEqual(SeatError.__bases__, (ValueError,))

    def test_each_refusal_stands_straight_under_seat_error(self):
        for refusal in REFUSALS:
            with self.subTest(refusal=refusal.__name__):
                self.assertEqual(refusal.__bases__, (SeatError,))

    def test_the_refusals_are_different_classes(self):
        self.assertEqual(len(set(REFUSALS)), 4)

    def test_each_refusal_is_taken_as_seat_error_and_as_value_error(self):
        for refusal in REFUSALS:
            for wider in (SeatError, ValueError):
                with self.subTest(refusal=refusal.__name__, wider=wider.__name__):
                    with self.assertRaises(wider):
                        raise refusal("refused")

    def test_the_names_are_those_of_the_interface(self):
        names = [refusal.__name__ for refusal in (SeatError,) + REFUSALS]
        self.assertEqual(names, ["SeatError", "BadTurning", "OtherLength", "BadRings", "NoRank"])


if __name__ == "__main__":
    unittest.main()

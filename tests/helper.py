"""What the tests share: wrong turnings, ways to make right ones, and checks of an answer's kind."""

import inspect
import itertools
import unittest

from seatturn.errors import SeatError

# Each of these is a tuple of whole numbers, and no turning.
BAD = (
    ("a number twice", (0, 1, 1)),
    ("all numbers alike", (0, 0, 0)),
    ("one below nought", (0, -1, 1)),
    ("below nought, though an index could mean it", (0, 1, -1)),
    ("one not below the count", (0, 1, 3)),
    ("counted from one", (1, 2, 3)),
    ("one seat, not nought", (1,)),
    ("one seat, below nought", (-1,)),
    ("the sum and the range are right", (0, 0, 3, 3)),
    ("a very long number", (0, 10 ** 5000)),
    ("a very long number below nought", (-10 ** 5000, 0)),
    ("five hundred seats, one twice", tuple(range(499)) + (0,)),
)

# Somewhat more than five hundred is not refused either.
MANY = (500, 501, 600)


def turnings(count):
    return list(itertools.permutations(range(count)))


def rest(count):
    return tuple(range(count))


def rotation(count, by):
    return tuple((seat + by) % count for seat in range(count))


def shuffle_of(count, factor):
    """A turning that is no rotation, where factor and count share no divisor."""
    return tuple(seat * factor % count for seat in range(count))


def behind(one, two):
    return tuple(two[seat] for seat in one)


def tuples_near_turnings(most):
    """All tuples of up to so many numbers from -2 on, with whether each is a turning."""
    for count in range(most + 1):
        for given in itertools.product(range(-2, count + 2), repeat=count):
            yield given, sorted(given) == list(range(count))


class Checked(unittest.TestCase):
    def assert_tuple(self, answer, wanted):
        self.assertIs(type(answer), tuple)
        self.assertEqual(answer, wanted)

    def assert_list(self, answer, wanted):
        self.assertIs(type(answer), list)
        self.assertEqual(answer, wanted)

    def assert_number(self, answer, wanted):
        self.assertIs(type(answer), int)
        self.assertEqual(answer, wanted)

    def assert_refused(self, refusal, work, *given):
        with self.assertRaises(ValueError) as caught:
            work(*given)
        self.assertIs(type(caught.exception), refusal)
        self.assertIsInstance(caught.exception, SeatError)

    def assert_arguments(self, work, names):
        self.assertEqual(list(inspect.signature(work).parameters), names)

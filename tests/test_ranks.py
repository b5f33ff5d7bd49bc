import math
import unittest

from seatturn.errors import BadTurning, NoRank
from seatturn.ranks import rank_of, turning_at
from tests.helper import BAD, MANY, Checked, rest, rotation, shuffle_of, tuples_near_turnings, turnings


class Interface(Checked):
    def test_names_of_the_arguments(self):
        self.assert_arguments(rank_of, ["turning"])
        self.assert_arguments(turning_at, ["count", "rank"])

    def test_arguments_by_name(self):
        self.assertEqual(rank_of(turning=(1, 2, 0)), 3)
        self.assertEqual(turning_at(rank=3, count=3), (1, 2, 0))


class RankOf(Checked):
    def test_no_seat(self):
        self.assert_number(rank_of(()), 0)

    def test_one_seat(self):
        self.assert_number(rank_of((0,)), 0)

    def test_written_out(self):
        self.assert_number(rank_of((0, 1)), 0)
        self.assert_number(rank_of((1, 0)), 1)
        self.assert_number(rank_of((0, 2, 1)), 1)
        self.assert_number(rank_of((2, 0, 1)), 4)
        self.assert_number(rank_of((3, 0, 4, 1, 2)), 76)

    def test_all_turnings_of_few_seats_against_their_sorted_list(self):
        for count in range(7):
            for rank, turning in enumerate(sorted(turnings(count))):
                self.assert_number(rank_of(turning), rank)

    def test_the_first_and_the_last(self):
        for count in (0, 1, 2, 9) + MANY:
            self.assert_number(rank_of(rest(count)), 0)
            self.assert_number(rank_of(rest(count)[::-1]), math.factorial(count) - 1)

    def test_bad_turning(self):
        for name, bad in BAD:
            with self.subTest(name):
                self.assert_refused(BadTurning, rank_of, bad)

    def test_just_the_turnings_are_taken(self):
        for given, right in tuples_near_turnings(4):
            if right:
                rank_of(given)
            else:
                self.assert_refused(BadTurning, rank_of, given)


class TurningAt(Checked):
    def test_no_seat_has_one_turning(self):
        self.assert_tuple(turning_at(0, 0), ())

    def test_one_seat(self):
        self.assert_tuple(turning_at(1, 0), (0,))

    def test_written_out(self):
        self.assert_tuple(turning_at(2, 1), (1, 0))
        self.assert_tuple(turning_at(3, 1), (0, 2, 1))
        self.assert_tuple(turning_at(3, 4), (2, 0, 1))
        self.assert_tuple(turning_at(5, 76), (3, 0, 4, 1, 2))

    def test_all_ranks_of_few_seats_against_the_sorted_list(self):
        for count in range(7):
            for rank, turning in enumerate(sorted(turnings(count))):
                self.assert_tuple(turning_at(count, rank), turning)

    def test_the_first_and_the_last(self):
        for count in (0, 1, 2, 9) + MANY:
            self.assert_tuple(turning_at(count, 0), rest(count))
            self.assert_tuple(turning_at(count, math.factorial(count) - 1), rest(count)[::-1])

    def test_no_rank_below_nought(self):
        for count in (0, 1, 2, 3, 4, 5) + MANY:
            for rank in (-1, -2, -math.factorial(count), -10 ** 5000):
                with self.subTest(count=count):
                    self.assert_refused(NoRank, turning_at, count, rank)

    def test_no_rank_from_the_count_of_all_turnings_on(self):
        for count in (0, 1, 2, 3, 4, 5) + MANY:
            every = math.factorial(count)
            for rank in (every, every + 1, 2 * every, every * (count + 1), 10 ** 5000):
                with self.subTest(count=count):
                    self.assert_refused(NoRank, turning_at, count, rank)

    def test_no_rank_near_the_ranks_of_few_seats(self):
        for count in range(5):
            every = math.factorial(count)
            for rank in list(range(-every - 30, 0)) + list(range(every, 3 * every + 30)):
                self.assert_refused(NoRank, turning_at, count, rank)


class ThereAndBack(Checked):
    def test_many_seats_from_a_rank(self):
        for count in MANY:
            every = math.factorial(count)
            for rank in (0, 1, 2, 719, 720, 10 ** 40, every // 3, every // 7 * 5, every - 2, every - 1):
                self.assert_number(rank_of(turning_at(count, rank)), rank)

    def test_many_seats_from_a_turning(self):
        for count in MANY:
            for turning in (rotation(count, 1), rotation(count, 123), shuffle_of(count, 7), rest(count)):
                self.assert_tuple(turning_at(count, rank_of(turning)), turning)

    def test_many_seats_stand_in_the_order_of_their_ranks(self):
        for count in MANY:
            every = math.factorial(count)
            ranks = [every // 1000 * part for part in range(0, 1000, 90)]
            ranks = sorted(ranks + [rank + 1 for rank in ranks])
            told = [turning_at(count, rank) for rank in ranks]
            self.assertEqual(told, sorted(told))
            self.assertEqual(len(set(told)), len(told))
            for turning in told:
                self.assertEqual(tuple(sorted(turning)), rest(count))


if __name__ == "__main__":
    unittest.main()

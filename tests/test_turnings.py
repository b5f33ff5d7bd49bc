import itertools
import unittest

from seatturn.errors import BadTurning, OtherLength, SeatError
from seatturn.turnings import joined, seated, turned_back
from tests.helper import BAD, MANY, Checked, rest, rotation, shuffle_of, tuples_near_turnings, turnings


def guests(count):
    return [f"guest {seat}" for seat in range(count)]


class Interface(Checked):
    def test_names_of_the_arguments(self):
        self.assert_arguments(joined, ["one", "two"])
        self.assert_arguments(turned_back, ["turning"])
        self.assert_arguments(seated, ["turning", "row"])

    def test_arguments_by_name(self):
        self.assertEqual(joined(two=(0, 2, 1), one=(1, 0, 2)), (2, 0, 1))
        self.assertEqual(turned_back(turning=(1, 2, 0)), (2, 0, 1))
        self.assertEqual(seated(row=["a", "b", "c"], turning=(1, 2, 0)), ["c", "a", "b"])


class WhatATurningIs(Checked):
    def test_just_the_tuples_with_each_number_once_are_taken(self):
        for given, right in tuples_near_turnings(4):
            count = len(given)
            if right:
                turned_back(given)
                joined(given, given)
                seated(given, guests(count))
            else:
                self.assert_refused(BadTurning, turned_back, given)
                self.assert_refused(BadTurning, joined, given, rest(count))
                self.assert_refused(BadTurning, joined, rest(count), given)
                self.assert_refused(BadTurning, seated, given, guests(count))


class Joined(Checked):
    def test_no_seat(self):
        self.assert_tuple(joined((), ()), ())

    def test_one_seat(self):
        self.assert_tuple(joined((0,), (0,)), (0,))

    def test_written_out(self):
        self.assert_tuple(joined((1, 0), (1, 0)), (0, 1))
        self.assert_tuple(joined((1, 2, 0), (1, 2, 0)), (2, 0, 1))
        self.assert_tuple(joined((3, 0, 4, 1, 2), (1, 0, 2, 4, 3)), (4, 1, 3, 0, 2))

    def test_the_order_of_the_two_counts(self):
        self.assert_tuple(joined((1, 0, 2), (0, 2, 1)), (2, 0, 1))
        self.assert_tuple(joined((0, 2, 1), (1, 0, 2)), (1, 2, 0))

    def test_each_guest_goes_by_the_one_and_then_by_the_other(self):
        for count in range(5):
            for one in turnings(count):
                for two in turnings(count):
                    self.assert_tuple(joined(one, two), tuple(two[one[seat]] for seat in range(count)))

    def test_the_resting_turning_on_either_side(self):
        for count in range(6):
            for turning in turnings(count):
                self.assert_tuple(joined(turning, rest(count)), turning)
                self.assert_tuple(joined(rest(count), turning), turning)

    def test_a_row_turned_twice_is_a_row_turned_by_the_joined(self):
        row = guests(4)
        for one in turnings(4):
            for two in turnings(4):
                self.assertEqual(seated(two, seated(one, row)), seated(joined(one, two), row))

    def test_bad_turning_on_either_side(self):
        for name, bad in BAD:
            with self.subTest(name):
                self.assert_refused(BadTurning, joined, bad, rest(len(bad)))
                self.assert_refused(BadTurning, joined, rest(len(bad)), bad)
                self.assert_refused(BadTurning, joined, bad, bad)

    def test_other_length(self):
        for one, two in itertools.permutations(range(5), 2):
            with self.subTest(one=one, two=two):
                self.assert_refused(OtherLength, joined, rest(one), rest(two))
        self.assert_refused(OtherLength, joined, (1, 2, 0), (1, 0))
        self.assert_refused(OtherLength, joined, (1, 0), (1, 2, 0))
        self.assert_refused(OtherLength, joined, rest(500), rest(499))

    def test_bad_turning_goes_ahead_of_other_length(self):
        for name, bad in BAD:
            for other in (len(bad) - 1, len(bad) + 1, 0):
                if other == len(bad):
                    continue
                with self.subTest(name, other=other):
                    self.assert_refused(BadTurning, joined, bad, rest(other))
                    self.assert_refused(BadTurning, joined, rest(other), bad)


class TurnedBack(Checked):
    def test_no_seat(self):
        self.assert_tuple(turned_back(()), ())

    def test_written_out(self):
        self.assert_tuple(turned_back((0,)), (0,))
        self.assert_tuple(turned_back((1, 0)), (1, 0))
        self.assert_tuple(turned_back((1, 2, 0)), (2, 0, 1))
        self.assert_tuple(turned_back((3, 0, 4, 1, 2)), (1, 3, 4, 0, 2))

    def test_the_resting_turning_undoes_itself(self):
        for count in range(6):
            self.assert_tuple(turned_back(rest(count)), rest(count))

    def test_joined_on_either_side_it_rests(self):
        for count in range(7):
            for turning in turnings(count):
                back = turned_back(turning)
                self.assertIs(type(back), tuple)
                self.assert_tuple(joined(turning, back), rest(count))
                self.assert_tuple(joined(back, turning), rest(count))

    def test_it_brings_every_guest_back(self):
        row = guests(5)
        for turning in turnings(5):
            self.assertEqual(seated(turned_back(turning), seated(turning, row)), row)

    def test_bad_turning(self):
        for name, bad in BAD:
            with self.subTest(name):
                self.assert_refused(BadTurning, turned_back, bad)


class Seated(Checked):
    def test_no_seat(self):
        self.assert_list(seated((), []), [])

    def test_one_seat(self):
        self.assert_list(seated((0,), ["a"]), ["a"])

    def test_written_out(self):
        self.assert_list(seated((1, 2, 0), ["a", "b", "c"]), ["c", "a", "b"])
        self.assert_list(seated((3, 0, 4, 1, 2), ["a", "b", "c", "d", "e"]), ["b", "d", "e", "a", "c"])

    def test_the_guest_of_each_seat_sits_where_the_turning_says(self):
        for count in range(6):
            row = guests(count)
            for turning in turnings(count):
                answer = seated(turning, row)
                self.assertIs(type(answer), list)
                self.assertEqual(len(answer), count)
                for seat in range(count):
                    self.assertEqual(answer[turning[seat]], row[seat])

    def test_guests_with_one_name_and_with_none(self):
        self.assert_list(seated((2, 0, 1), ["a", "a", ""]), ["a", "", "a"])

    def test_the_row_stays_as_it_was_and_the_answer_is_another_list(self):
        for count in range(5):
            for turning in turnings(count):
                row = guests(count)
                answer = seated(turning, row)
                self.assertEqual(row, guests(count))
                self.assertIsNot(answer, row)
                answer.append("late")
                self.assertEqual(row, guests(count))

    def test_the_row_stays_as_it_was_when_it_is_refused(self):
        for turning in ((1, 1, 0), (1, 0), (3, 2, 1, 0)):
            row = guests(3)
            with self.assertRaises(SeatError):
                seated(turning, row)
            self.assertEqual(row, guests(3))

    def test_a_guest_too_many(self):
        for count in (0, 1, 2, 5, 500):
            with self.subTest(count=count):
                self.assert_refused(OtherLength, seated, rest(count), guests(count + 1))

    def test_a_guest_too_few(self):
        for count in (1, 2, 5, 500):
            with self.subTest(count=count):
                self.assert_refused(OtherLength, seated, rest(count), guests(count - 1))

    def test_bad_turning(self):
        for name, bad in BAD:
            with self.subTest(name):
                self.assert_refused(BadTurning, seated, bad, guests(len(bad)))

    def test_bad_turning_goes_ahead_of_other_length(self):
        for name, bad in BAD:
            for other in (len(bad) - 1, len(bad) + 1):
                with self.subTest(name, other=other):
                    self.assert_refused(BadTurning, seated, bad, guests(other))


class ManySeats(Checked):
    def test_joined(self):
        for count in MANY:
            self.assert_tuple(joined(rotation(count, 1), rotation(count, count - 1)), rest(count))
            self.assert_tuple(joined(rotation(count, 7), rotation(count, 30)), rotation(count, 37))

    def test_turned_back(self):
        for count in MANY:
            self.assert_tuple(turned_back(rotation(count, 7)), rotation(count, count - 7))
            turning = shuffle_of(count, 7)
            self.assert_tuple(joined(turning, turned_back(turning)), rest(count))

    def test_seated(self):
        for count in MANY:
            row = guests(count)
            self.assert_list(seated(rotation(count, 1), row), row[-1:] + row[:-1])
            self.assert_list(seated(rest(count), row), guests(count))


if __name__ == "__main__":
    unittest.main()

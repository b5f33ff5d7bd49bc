import copy
import itertools
import math
import unittest

from seatturn.errors import BadRings, BadTurning, SeatError
from seatturn.rings import rings_of, times_round, turning_of
from tests.helper import (
    BAD,
    MANY,
    Checked,
    behind,
    rest,
    rotation,
    shuffle_of,
    tuples_near_turnings,
    turnings,
)

BAD_RINGS = (
    ("a ring of no seat, no seat", 0, [[]]),
    ("a ring of no seat", 3, [[]]),
    ("a ring of no seat behind a right one", 3, [[0, 1], []]),
    ("a ring of no seat ahead of a right one", 3, [[], [0, 1]]),
    ("a ring of one seat", 3, [[0]]),
    ("a ring of one seat, one seat", 1, [[0]]),
    ("a ring of one seat behind a right one", 3, [[0, 1], [2]]),
    ("a ring of one seat ahead of a right one", 3, [[2], [0, 1]]),
    ("below nought", 3, [[0, -1]]),
    ("below nought, as the first", 3, [[-1, 0]]),
    ("below nought, though an index could mean it", 3, [[0, 1, -1]]),
    ("below nought in a later ring", 4, [[0, 1], [2, -1]]),
    ("far below nought", 3, [[0, -10 ** 5000]]),
    ("the count itself", 3, [[0, 3]]),
    ("the count itself, as the first", 3, [[3, 0]]),
    ("the count itself in a later ring", 4, [[0, 1], [2, 4]]),
    ("above the count", 3, [[0, 4]]),
    ("a very great one", 3, [[0, 10 ** 5000]]),
    ("a seat where there is none", 0, [[0, 1]]),
    ("two seats where there is one", 1, [[0, 1]]),
    ("the count of five hundred", 500, [[0, 500]]),
    ("twice in one ring", 3, [[0, 0]]),
    ("twice in one ring, not side by side", 3, [[0, 1, 0]]),
    ("twice in one ring, the last ones", 3, [[0, 1, 1]]),
    ("in two rings", 3, [[0, 1], [1, 2]]),
    ("in two rings that are not side by side", 6, [[0, 1], [2, 3], [4, 0]]),
    ("one ring twice", 3, [[0, 1], [0, 1]]),
    ("one ring twice, the other way round", 3, [[0, 1], [1, 0]]),
    ("five hundred seats, the first one twice", 500, [list(range(500)) + [0]]),
    ("more seats than a row could hold", 10 ** 18, [[0]]),
    ("more seats than a row could hold, one twice", 10 ** 18, [[10 ** 17, 10 ** 17]]),
)


def set_out(rings):
    """One turning told by its rings, in all orders and from all of their seats on."""
    begun = [[ring[by:] + ring[:by] for by in range(len(ring))] for ring in rings]
    for chosen in itertools.product(*begun):
        for order in itertools.permutations(chosen):
            yield [list(ring) for ring in order]


def right_rings(count, rings):
    seats = [seat for ring in rings for seat in ring]
    long_enough = all(len(ring) >= 2 for ring in rings)
    return long_enough and len(seats) == len(set(seats)) and set(seats) <= set(range(count))


def rings_of_lengths(lengths):
    """Rings whose seats lie side by side, from nought on."""
    rings = []
    start = 0
    for length in lengths:
        rings.append(list(range(start, start + length)))
        start += length
    return rings


def done(turning, times):
    answer = rest(len(turning))
    while times > 0:
        if times % 2 == 1:
            answer = behind(answer, turning)
        turning = behind(turning, turning)
        times //= 2
    return answer


class Interface(Checked):
    def test_names_of_the_arguments(self):
        self.assert_arguments(rings_of, ["turning"])
        self.assert_arguments(turning_of, ["count", "rings"])
        self.assert_arguments(times_round, ["turning"])

    def test_arguments_by_name(self):
        self.assertEqual(rings_of(turning=(1, 2, 0)), [[0, 1, 2]])
        self.assertEqual(turning_of(rings=[[0, 1, 2]], count=3), (1, 2, 0))
        self.assertEqual(times_round(turning=(1, 2, 0)), 3)


class RingsOf(Checked):
    def assert_rings(self, turning, wanted):
        answer = rings_of(turning)
        self.assert_list(answer, wanted)
        for ring in answer:
            self.assertIs(type(ring), list)

    def test_no_seat(self):
        self.assert_rings((), [])

    def test_one_seat(self):
        self.assert_rings((0,), [])

    def test_the_resting_turning_has_none(self):
        for count in range(8):
            self.assert_rings(rest(count), [])

    def test_written_out(self):
        self.assert_rings((1, 0), [[0, 1]])
        self.assert_rings((1, 2, 0), [[0, 1, 2]])
        self.assert_rings((2, 0, 1), [[0, 2, 1]])
        self.assert_rings((0, 2, 1), [[1, 2]])
        self.assert_rings((2, 1, 0), [[0, 2]])

    def test_several_rings_and_some_guests_who_stay(self):
        self.assert_rings((0, 4, 5, 3, 6, 2, 1, 7), [[1, 4, 6], [2, 5]])
        self.assert_rings((5, 3, 2, 4, 1, 0), [[0, 5], [1, 3, 4]])
        self.assert_rings((3, 2, 1, 0), [[0, 3], [1, 2]])

    def test_each_begins_with_its_least_seat_and_they_stand_in_the_order_of_their_first_ones(self):
        for count in range(7):
            for turning in turnings(count):
                rings = rings_of(turning)
                self.assertEqual([ring[0] for ring in rings], [min(ring) for ring in rings])
                self.assertEqual([ring[0] for ring in rings], sorted(ring[0] for ring in rings))

    def test_they_hold_just_the_seats_whose_guests_go(self):
        for count in range(7):
            for turning in turnings(count):
                seats = [seat for ring in rings_of(turning) for seat in ring]
                self.assertEqual(sorted(seats), [seat for seat in range(count) if turning[seat] != seat])

    def test_each_goes_to_the_next_one_s_seat_and_the_last_to_the_first_one_s(self):
        for count in range(7):
            for turning in turnings(count):
                for ring in rings_of(turning):
                    self.assertEqual([turning[seat] for seat in ring], ring[1:] + ring[:1])

    def test_an_answer_is_the_asker_s_own(self):
        answer = rings_of((1, 0, 3, 2))
        answer[0].append(7)
        answer.pop()
        self.assert_rings((1, 0, 3, 2), [[0, 1], [2, 3]])

    def test_bad_turning(self):
        for name, bad in BAD:
            with self.subTest(name):
                self.assert_refused(BadTurning, rings_of, bad)

    def test_just_the_turnings_are_taken(self):
        for given, right in tuples_near_turnings(4):
            if right:
                rings_of(given)
            else:
                self.assert_refused(BadTurning, rings_of, given)

    def test_many_seats(self):
        for count in MANY:
            self.assert_rings(rotation(count, 1), [list(range(count))])
            self.assert_rings(rotation(count, count - 1), [[0] + list(range(count - 1, 0, -1))])
            self.assert_rings(rest(count), [])
            turned = tuple(range(count - 1, -1, -1))
            self.assert_rings(turned, [[seat, count - 1 - seat] for seat in range(count // 2)])


class TurningOf(Checked):
    def test_no_ring_is_rest(self):
        for count in (0, 1, 2, 5, 500):
            self.assert_tuple(turning_of(count, []), rest(count))

    def test_written_out(self):
        self.assert_tuple(turning_of(2, [[0, 1]]), (1, 0))
        self.assert_tuple(turning_of(2, [[1, 0]]), (1, 0))
        self.assert_tuple(turning_of(3, [[0, 1, 2]]), (1, 2, 0))
        self.assert_tuple(turning_of(3, [[0, 2, 1]]), (2, 0, 1))
        self.assert_tuple(turning_of(8, [[1, 4, 6], [2, 5]]), (0, 4, 5, 3, 6, 2, 1, 7))

    def test_the_other_guests_stay(self):
        self.assert_tuple(turning_of(5, [[1, 3]]), (0, 3, 2, 1, 4))
        self.assert_tuple(turning_of(6, [[0, 1]]), (1, 0, 2, 3, 4, 5))

    def test_begun_with_other_seats_and_in_another_order(self):
        self.assert_tuple(turning_of(8, [[5, 2], [6, 1, 4]]), (0, 4, 5, 3, 6, 2, 1, 7))

    def test_what_rings_of_tells_gives_the_turning_back(self):
        for count in range(7):
            for turning in turnings(count):
                self.assert_tuple(turning_of(count, rings_of(turning)), turning)

    def test_so_it_does_in_all_orders_and_from_all_seats_on(self):
        for count in range(6):
            for turning in turnings(count):
                for rings in set_out(rings_of(turning)):
                    self.assert_tuple(turning_of(count, rings), turning)
                    self.assertEqual(rings_of(turning_of(count, rings)), rings_of(turning))

    def test_three_rings_in_all_orders_and_from_all_seats_on(self):
        for rings in set_out([[0, 6], [1, 3], [2, 7, 4]]):
            self.assert_tuple(turning_of(8, rings), (6, 3, 7, 1, 2, 5, 0, 4))

    def test_the_rings_stay_as_they_were(self):
        for rings in set_out([[0, 6], [1, 3], [2, 7, 4]]):
            before = copy.deepcopy(rings)
            turning_of(8, rings)
            self.assertEqual(rings, before)

    def test_the_rings_stay_as_they_were_when_they_are_refused(self):
        for name, count, rings in BAD_RINGS:
            with self.subTest(name):
                given = copy.deepcopy(rings)
                with self.assertRaises(SeatError):
                    turning_of(count, given)
                self.assertTrue(given == rings)

    def test_bad_rings(self):
        for name, count, rings in BAD_RINGS:
            with self.subTest(name):
                self.assert_refused(BadRings, turning_of, count, rings)

    def test_one_list_handed_in_as_two_rings(self):
        ring = [0, 1]
        self.assert_refused(BadRings, turning_of, 2, [ring, ring])

    def test_just_right_rings_are_taken(self):
        for count in range(4):
            seats = range(-1, count + 1)
            singles = [list(ring) for length in range(4) for ring in itertools.product(seats, repeat=length)]
            shorts = [ring for ring in singles if len(ring) < 3]
            told = [[ring] for ring in singles] + [list(pair) for pair in itertools.product(shorts, repeat=2)]
            for rings in told:
                if right_rings(count, rings):
                    self.assertIs(type(turning_of(count, rings)), tuple)
                else:
                    self.assert_refused(BadRings, turning_of, count, rings)

    def test_many_seats(self):
        for count in MANY:
            self.assert_tuple(turning_of(count, [list(range(count))]), rotation(count, 1))
            pairs = [[count - 1 - seat, seat] for seat in range(count // 2)]
            self.assert_tuple(turning_of(count, pairs), tuple(range(count - 1, -1, -1)))
            turning = shuffle_of(count, 7)
            self.assert_tuple(turning_of(count, rings_of(turning)), turning)

    def test_five_hundred_rings(self):
        rings = [[2 * seat + 1, 2 * seat] for seat in range(500)]
        self.assert_tuple(turning_of(1000, rings), tuple(seat + 1 - seat % 2 * 2 for seat in range(1000)))


class TimesRound(Checked):
    def test_no_seat(self):
        self.assert_number(times_round(()), 1)

    def test_the_resting_turning(self):
        for count in (1, 2, 3, 7, 500):
            self.assert_number(times_round(rest(count)), 1)

    def test_one_ring(self):
        for count in range(2, 12):
            self.assert_number(times_round(rotation(count, 1)), count)

    def test_rings_of_different_lengths(self):
        cases = (
            ([2, 3], 6),
            ([3, 2], 6),
            ([2, 2], 2),
            ([2, 4], 4),
            ([4, 2], 4),
            ([4, 6], 12),
            ([6, 4], 12),
            ([6, 10, 15], 30),
            ([2, 3, 4, 5], 60),
            ([3, 3, 3], 3),
        )
        for lengths, wanted in cases:
            with self.subTest(lengths=lengths):
                # A seat more, whose guest stays, changes nothing.
                for count in (sum(lengths), sum(lengths) + 1):
                    self.assert_number(times_round(turning_of(count, rings_of_lengths(lengths))), wanted)

    def test_done_so_often_it_is_rest_and_no_fewer_times_are(self):
        for count in range(7):
            for turning in turnings(count):
                now = turning
                times = 1
                while now != rest(count):
                    now = behind(now, turning)
                    times += 1
                self.assert_number(times_round(turning), times)

    def test_bad_turning(self):
        for name, bad in BAD:
            with self.subTest(name):
                self.assert_refused(BadTurning, times_round, bad)

    def test_just_the_turnings_are_taken(self):
        for given, right in tuples_near_turnings(4):
            if right:
                times_round(given)
            else:
                self.assert_refused(BadTurning, times_round, given)

    def test_five_hundred_seats_with_rings_of_many_lengths(self):
        primes = [2, 3, 5, 7, 11, 13, 17, 19, 23, 29, 31, 37, 41, 43, 47, 53, 59]
        for lengths in (primes, list(range(2, 31)), primes[3:] + [64, 6]):
            turning = turning_of(500, rings_of_lengths(lengths))
            answer = times_round(turning)
            self.assert_number(answer, math.lcm(*lengths))
            self.assertEqual(done(turning, answer), rest(500))
            for prime in primes:
                if answer % prime == 0:
                    self.assertNotEqual(done(turning, answer // prime), rest(500))

    def test_many_seats(self):
        for count in MANY:
            self.assert_number(times_round(rotation(count, 1)), count)


if __name__ == "__main__":
    unittest.main()

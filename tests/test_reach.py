import itertools
import unittest

from seatturn.errors import BadTurning, OtherLength, SeatError
from seatturn.reach import reached
from tests.helper import BAD, Checked, behind, rest, rotation, tuples_near_turnings, turnings

SWAP = (1, 0, 2, 3, 4)
ROUND = (1, 2, 3, 4, 0)

# All of these leave seats 3 and 4 to the guests 3 and 4, in one order or the other.
NINE_APART = [
    (1, 0, 2, 3, 4),
    (0, 2, 1, 3, 4),
    (2, 1, 0, 3, 4),
    (1, 2, 0, 3, 4),
    (2, 0, 1, 3, 4),
    (0, 1, 2, 3, 4),
    (0, 1, 2, 4, 3),
    (1, 0, 2, 4, 3),
    (1, 2, 0, 4, 3),
]

NINE_TOGETHER = [
    (1, 0, 2, 3, 4),
    (0, 2, 1, 3, 4),
    (0, 1, 3, 2, 4),
    (0, 1, 2, 4, 3),
    (1, 2, 3, 4, 0),
    (4, 0, 1, 2, 3),
    (4, 3, 2, 1, 0),
    (0, 1, 2, 3, 4),
    (1, 2, 0, 4, 3),
]


def led_to(turns, word, count):
    end = rest(count)
    for place in word:
        end = behind(end, turns[place])
    return end


def lengths_by_breadth(turns, count):
    """A plain search: each turning that some word leads to, with the length of a shortest."""
    lengths = {rest(count): 0}
    queue = [rest(count)]
    for end in queue:
        for turn in turns:
            further = behind(end, turn)
            if further not in lengths:
                lengths[further] = lengths[end] + 1
                queue.append(further)
    return lengths


class ReachChecked(Checked):
    def assert_word(self, turns, goal, length):
        answer = reached(turns, goal)
        self.assertIs(type(answer), tuple)
        self.assertEqual(len(answer), 2)
        self.assertEqual(answer[0], "word")
        word = answer[1]
        self.assertIs(type(word), list)
        for place in word:
            self.assertIs(type(place), int)
            self.assertIn(place, range(len(turns)))
        self.assertEqual(led_to(turns, word, len(goal)), goal)
        self.assertEqual(len(word), length)

    def assert_apart(self, turns, goal, those):
        answer = reached(turns, goal)
        self.assertIs(type(answer), tuple)
        self.assertEqual(len(answer), 2)
        self.assertEqual(answer[0], "apart")
        self.assert_list(answer[1], those)
        for turning in answer[1]:
            self.assertIs(type(turning), tuple)

    def assert_as_by_breadth(self, turns, count, goals):
        lengths = lengths_by_breadth(turns, count)
        those = sorted(lengths)
        for goal in goals:
            if goal in lengths:
                self.assert_word(turns, goal, lengths[goal])
            else:
                self.assert_apart(turns, goal, those)


class Interface(Checked):
    def test_names_of_the_arguments(self):
        self.assert_arguments(reached, ["turns", "goal"])

    def test_arguments_by_name(self):
        self.assertEqual(reached(goal=(1, 0), turns=[(1, 0)]), ("word", [0]))


class Written(ReachChecked):
    def test_no_turns_at_all(self):
        self.assert_tuple(reached([], ()), ("word", []))
        self.assert_tuple(reached([], (0,)), ("word", []))
        self.assert_tuple(reached([], (0, 1, 2)), ("word", []))
        self.assert_tuple(reached([], (1, 0)), ("apart", [(0, 1)]))
        self.assert_tuple(reached([], (0, 1, 2, 4, 3)), ("apart", [(0, 1, 2, 3, 4)]))

    def test_no_seat(self):
        self.assert_tuple(reached([()], ()), ("word", []))
        self.assert_tuple(reached([(), (), ()], ()), ("word", []))

    def test_one_seat(self):
        self.assert_tuple(reached([(0,)], (0,)), ("word", []))

    def test_the_empty_word_leads_to_rest(self):
        for count in range(6):
            self.assert_tuple(reached([rest(count)], rest(count)), ("word", []))
            self.assert_tuple(reached([rest(count)[::-1]] * 2, rest(count)), ("word", []))

    def test_only_the_resting_turn(self):
        self.assert_tuple(reached([(0, 1, 2)], (1, 0, 2)), ("apart", [(0, 1, 2)]))

    def test_one_turn(self):
        self.assert_tuple(reached([(1, 2, 0)], (1, 2, 0)), ("word", [0]))
        self.assert_tuple(reached([(1, 2, 0)], (2, 0, 1)), ("word", [0, 0]))
        self.assert_tuple(reached([ROUND], (4, 0, 1, 2, 3)), ("word", [0, 0, 0, 0]))

    def test_the_places_are_counted_from_nought(self):
        self.assert_tuple(reached([(0, 1), (1, 0)], (1, 0)), ("word", [1]))
        self.assert_tuple(reached([(0, 1, 2), (0, 2, 1), (1, 2, 0)], (2, 0, 1)), ("word", [2, 2]))

    def test_the_turns_are_done_from_the_first_place_on(self):
        self.assert_tuple(reached([(1, 0, 2), (0, 2, 1)], (2, 0, 1)), ("word", [0, 1]))
        self.assert_tuple(reached([(1, 0, 2), (0, 2, 1)], (1, 2, 0)), ("word", [1, 0]))

    def test_a_shorter_word_by_a_later_turn(self):
        self.assert_tuple(reached([(1, 2, 3, 0), (3, 0, 1, 2)], (3, 0, 1, 2)), ("word", [1]))

    def test_apart_in_the_order_of_tuples(self):
        self.assert_apart([(2, 0, 1)], (1, 0, 2), [(0, 1, 2), (1, 2, 0), (2, 0, 1)])
        self.assert_apart([(3, 0, 1, 2)], (1, 0, 2, 3), [(0, 1, 2, 3), (1, 2, 3, 0), (2, 3, 0, 1), (3, 0, 1, 2)])

    def test_one_turn_twice_in_the_list(self):
        self.assert_word([(1, 0, 2), (1, 0, 2)], (1, 0, 2), 1)
        self.assert_apart([(1, 0, 2), (1, 0, 2)], (0, 2, 1), [(0, 1, 2), (1, 0, 2)])


class AgainstAPlainSearch(ReachChecked):
    def test_up_to_three_seats_and_three_turns(self):
        for count in range(4):
            every = turnings(count)
            for length in range(4):
                for turns in itertools.product(every, repeat=length):
                    self.assert_as_by_breadth(list(turns), count, every)

    def test_four_seats_and_two_turns(self):
        every = turnings(4)
        for turns in itertools.combinations(every, 2):
            self.assert_as_by_breadth(list(turns), 4, every)

    def test_five_seats_and_one_or_two_turns(self):
        every = turnings(5)
        for turn in every:
            self.assert_as_by_breadth([turn], 5, every[::17])
        self.assert_as_by_breadth([SWAP, ROUND], 5, every)
        self.assert_as_by_breadth([ROUND, (1, 2, 0, 3, 4)], 5, every)

    def test_five_seats_and_nine_turns(self):
        every = turnings(5)
        self.assertEqual(len(NINE_APART), 9)
        self.assertEqual(len(NINE_TOGETHER), 9)
        for turns in (NINE_APART, NINE_TOGETHER, NINE_TOGETHER[::-1], every[1::14], [SWAP] * 9):
            self.assertEqual(len(turns), 9)
            self.assert_as_by_breadth(turns, 5, every)

    def test_somewhat_more_seats_and_turns(self):
        goals = [rest(6), rest(6)[::-1], (1, 0, 2, 3, 4, 5), (0, 1, 2, 3, 5, 4), (3, 4, 5, 0, 1, 2)]
        self.assert_as_by_breadth([rotation(6, 1), (1, 0, 2, 3, 4, 5)], 6, goals)
        apart = [turn + (5,) for turn in NINE_APART] + [rest(6)]
        self.assert_as_by_breadth(apart, 6, goals)


class WhatApartHolds(ReachChecked):
    def test_rest_and_all_that_come_by_a_turn_and_not_the_goal(self):
        goal = (3, 0, 1, 2, 4)
        kind, those = reached(NINE_APART, goal)
        self.assertEqual(kind, "apart")
        self.assertEqual(len(those), 12)
        self.assertIn(rest(5), those)
        self.assertNotIn(goal, those)
        self.assertEqual(those, sorted(set(those)))
        for turning in those:
            for turn in NINE_APART:
                self.assertIn(behind(turning, turn), those)


class NothingIsChanged(ReachChecked):
    def test_the_turns_stay_as_they_were(self):
        for goal in (rest(5), (4, 3, 2, 1, 0), (0, 1, 2, 4, 3)):
            for every in (NINE_APART, NINE_TOGETHER):
                for length in range(10):
                    turns = every[:length]
                    reached(turns, goal)
                    self.assertEqual(turns, every[:length])

    def test_the_turns_stay_as_they_were_when_refused(self):
        for turns in ([(1, 0), (0, 0)], [(1, 0), (0, 1, 2)]):
            before = list(turns)
            with self.assertRaises(SeatError):
                reached(turns, (1, 0))
            self.assertEqual(turns, before)

    def test_an_answer_is_the_asker_s_own(self):
        turns = [(1, 2, 0)]
        reached(turns, (0, 1, 2))[1].append(5)
        reached(turns, (2, 0, 1))[1].append(5)
        reached(turns, (1, 0, 2))[1].clear()
        self.assertEqual(turns, [(1, 2, 0)])
        self.assert_tuple(reached(turns, (0, 1, 2)), ("word", []))
        self.assert_tuple(reached(turns, (2, 0, 1)), ("word", [0, 0]))
        self.assert_tuple(reached(turns, (1, 0, 2)), ("apart", [(0, 1, 2), (1, 2, 0), (2, 0, 1)]))


class Refused(Checked):
    def test_bad_goal(self):
        for name, bad in BAD:
            with self.subTest(name):
                self.assert_refused(BadTurning, reached, [], bad)
                self.assert_refused(BadTurning, reached, [rest(len(bad))], bad)

    def test_bad_turn(self):
        for name, bad in BAD:
            right = rest(len(bad))
            for turns in ([bad], [bad, right], [right, bad], [right, bad, right], [bad, bad]):
                with self.subTest(name):
                    self.assert_refused(BadTurning, reached, turns, right)
                    self.assert_refused(BadTurning, reached, turns, bad)

    def test_just_the_turnings_are_taken(self):
        for given, right in tuples_near_turnings(3):
            count = len(given)
            if right:
                reached([given], given)
            else:
                self.assert_refused(BadTurning, reached, [given], rest(count))
                self.assert_refused(BadTurning, reached, [rest(count)], given)

    def test_a_bad_one_among_nine_turns(self):
        for place in range(9):
            turns = list(NINE_TOGETHER)
            turns[place] = (0, 1, 2, 3, 3)
            # Rest and the first turn could be reached without a look at the bad one.
            for goal in (rest(5), turns[0] if place > 0 else turns[1], (0, 2, 4, 1, 3)):
                self.assert_refused(BadTurning, reached, turns, goal)

    def test_other_length(self):
        for one, two in itertools.permutations(range(6), 2):
            self.assert_refused(OtherLength, reached, [rest(one)], rest(two))
            self.assert_refused(OtherLength, reached, [rest(one)[::-1]], rest(two)[::-1])
            self.assert_refused(OtherLength, reached, [rest(one), rest(one)], rest(two))

    def test_one_of_another_length_among_nine_turns(self):
        for place in range(9):
            for other in ((), (0,), (1, 0, 2, 3), (1, 0, 2, 3, 4, 5)):
                turns = list(NINE_TOGETHER)
                turns[place] = other
                for goal in (rest(5), turns[0] if place > 0 else turns[1], (0, 2, 4, 1, 3)):
                    self.assert_refused(OtherLength, reached, turns, goal)

    def test_bad_turning_goes_ahead_of_other_length(self):
        for name, bad in BAD:
            right = rest(len(bad))
            longer = rest(len(bad) + 1)
            with self.subTest(name):
                self.assert_refused(BadTurning, reached, [bad], longer)
                self.assert_refused(BadTurning, reached, [longer], bad)
                self.assert_refused(BadTurning, reached, [longer, bad], right)
                self.assert_refused(BadTurning, reached, [bad, longer], right)
                self.assert_refused(BadTurning, reached, [longer, right, bad], right)
                self.assert_refused(BadTurning, reached, [right, bad], longer)
                self.assert_refused(BadTurning, reached, [longer, ()], bad)


if __name__ == "__main__":
    unittest.main()

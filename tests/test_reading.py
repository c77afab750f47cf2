"""The interface: how calls are handed in, how answers are given back, what stays as it was."""

import unittest

from asking import (BIG, THIRTY, ask, ask_all, can, cut, edges, fewest, flat, give, make, near, new, put, steal, take,
                    what, who)
from takegive.graph import answers

SESSION = [new(1), make(1, 1, [0, 1]), new(0), put(2, 3, 2), take(1, 2, 3, 2), cut(1, 3, 2), can(2, 1, 3),
           give(1, 2, 3, 2), put(1, 3, 3), give(1, 2, 3, 3), cut(9, 9, 9), can(3, 2, 3)]
SESSION_ANSWERS = [1, 2, 3, 3, 4, 3, 1, -6, 4, 5, -1, 1]

MIXED = [edges(), new(1), near(1), make(1, 1, [0, 1]), new(0), what(1), put(2, 3, 2), steal(2, 1, 3), who(2, 3),
         fewest(2, 1, 3), take(1, 2, 3, 2), steal(2, 1, 3), fewest(2, 1, 3), edges(), near(3), cut(1, 2, 0), can(0, 1, 2),
         what(2), near(2), give(1, 2, 3, 3), who(4, 3), fewest(2, 1, 1), edges()]
MIXED_ANSWERS = [[0], [1], [1, 1], [2], [3], [2, 2, 0, 2, 1], [3], [1], [2, 1, 2],
                 flat([(2, 3, 2)]), [4], [0], flat([(2, 3, 2), (1, 3, 2)]),
                 flat([(1, 2, 0), (1, 2, 1), (2, 3, 2), (1, 3, 2)]), [-1], [3], [0],
                 flat([(3, 2)]), [2, 1, 2], [-6], [-1], [-1], flat([(1, 2, 1), (2, 3, 2), (1, 3, 2)])]


class Reading(unittest.TestCase):
    def test_how_many_stands_ahead_of_each_answer(self):
        self.assertEqual(answers([0, 1]), [1, 1])
        self.assertEqual(answers([0, 1, 0, 0, 1, 1, 2, 3]), [1, 1, 1, 2, 1, 1])
        self.assertEqual(answers([0, 2, 1, 1, 1, 1, 6, 0, 1, 2]), [1, -1, 1, -1, 1, -1])

    def test_each_call_alone_is_a_first_call(self):
        self.assertEqual(answers([0, 0]), [1, 1])
        self.assertEqual(answers([1, 1, 2, 0]), [1, -1])
        self.assertEqual(answers([2, 1, 2, 0]), [1, -1])
        self.assertEqual(answers([3, 1, 2, 3, 0]), [1, -6])
        self.assertEqual(answers([4, 1, 2, 3, 0]), [1, -6])
        self.assertEqual(answers([5, 1, 1, 0]), [1, -6])
        self.assertEqual(answers([6, 0, 1, 2]), [1, -1])
        self.assertEqual(answers([7, 0, 1, 2]), [1, -1])
        self.assertEqual(answers([8, 0, 1]), [1, -1])
        self.assertEqual(answers([9, 1]), [1, -1])
        self.assertEqual(answers([10, 1]), [1, -1])
        self.assertEqual(answers([11, 0, 1, 2]), [1, -1])
        self.assertEqual(answers([12]), [1, 0])

    def test_each_call_is_read_to_its_end(self):
        for call in ([7, 0, 1, 2], [8, 0, 1], [9, 1], [10, 1], [11, 0, 1, 2], [12]):
            told = [1, 0] if call == [12] else [1, -1]
            self.assertEqual(answers(call + [0, 1]), told + [1, 1])
            self.assertEqual(answers(call + call + [0, 2] + call), told + told + [1, -1] + told)

    def test_how_many_stands_ahead_of_rows(self):
        start = [0, 1, 0, 1, 0, 0, 1, 1, 2, 0, 1, 2, 3, 2]
        told = [1, 1, 1, 2, 1, 3, 1, 1, 1, 2]
        self.assertEqual(answers(start + [7, 2, 1, 3]), told + [1, 1])
        self.assertEqual(answers(start + [8, 2, 3]), told + [3, 2, 1, 2])
        self.assertEqual(answers(start + [9, 1]), told + [5, 2, 2, 0, 3, 2])
        self.assertEqual(answers(start + [10, 2]), told + [3, 2, 1, 2])
        self.assertEqual(answers(start + [11, 2, 1, 3]), told + [4, 1, 1, 2, 0])
        self.assertEqual(answers(start + [12]), told + [7, 2, 1, 2, 0, 2, 3, 2])
        self.assertEqual(answers(start + [12, 11, 3, 1, 3, 10, 3, 8, 3, 3, 9, 3]),
                         told + [7, 2, 1, 2, 0, 2, 3, 2] + [1, 0] + [1, -1] + [1, 0] + [1, 0])

    def test_the_right_stands_first_in_the_calls_that_ask(self):
        start = [[0, 1], [0, 1], [1, 1, 2, 3]]
        self.assertEqual(ask(*start, [7, 3, 1, 2], [7, 3, 2, 1], [11, 3, 1, 2], [11, 2, 1, 3], [8, 3, 2], [8, 2, 3])[3:],
                         [[0], [0], [1, 1, 2, 3], [-1], [1, 1], [-1]])
        self.assertEqual(ask(*start, [0, 1], [1, 3, 1, 0], [7, 3, 3, 2], [7, 2, 3, 3])[-2:], [[1], [-1]])

    def test_the_right_stands_first_in_can_and_last_in_the_others(self):
        self.assertEqual(ask_all(new(1), new(1), [1, 1, 2, 3], [6, 3, 1, 2], [6, 2, 1, 3]), [1, 2, 1, 1, -1])
        self.assertEqual(ask_all(new(1), new(1), [1, 2, 1, 0], [2, 2, 1, 0]), [1, 2, 1, 0])

    def test_many_calls_in_one_list(self):
        self.assertEqual(ask_all(*SESSION), SESSION_ANSWERS)
        self.assertEqual(ask(*MIXED), MIXED_ANSWERS)

    def test_rows_of_every_length_are_read_to_their_end(self):
        for length in range(21):
            row = list(range(length))
            made = 2 if length <= 4 else -1
            self.assertEqual(answers([0, 1, 5, 1, 0, length] + row + [0, 0]), [1, 1, 1, made, 1, 3 if made == 2 else 2])

    def test_refused_rows_are_read_to_their_end(self):
        self.assertEqual(ask_all(make(1, 0, [0, 1]), make(1, 2, [1, 0, BIG]), new(1), new(0)), [-6, -1, 1, 2])

    def test_forty_calls(self):
        self.assertEqual(ask_all(*[new(2)] * 30, *[new(1)] * 10), [-1] * 30 + list(range(1, 11)))
        self.assertEqual(ask(*[edges()] * 40), [[0]] * 40)
        asked = [edges(), what(1), who(3, 8), fewest(3, 1, 8), near(1), steal(3, 2, 8)]
        found = ask(*THIRTY, *asked * 5, new(1))
        self.assertEqual(found[9:15] * 5, found[9:39])
        self.assertEqual(found[39], [10])

    def test_the_list_handed_in_stays_as_it_was(self):
        for calls in (SESSION, MIXED, THIRTY, [make(1, 0, [3, 2, 1])]):
            handed_in = sum(calls, [])
            before = list(handed_in)
            answers(handed_in)
            self.assertEqual(handed_in, before)

    def test_a_second_time_answers_as_the_first(self):
        for calls in (SESSION, MIXED):
            handed_in = sum(calls, [])
            first = answers(handed_in)
            answers(sum(THIRTY, []))
            self.assertEqual(answers(handed_in), first)

    def test_what_is_given_back_is_a_new_list_of_whole_numbers(self):
        handed_in = sum(MIXED, [])
        given = answers(handed_in)
        self.assertIs(type(given), list)
        self.assertEqual({type(number) for number in given + answers(sum(SESSION, []))}, {int})
        kept = list(given)
        given.clear()
        self.assertEqual(answers(handed_in), kept)


if __name__ == "__main__":
    unittest.main()

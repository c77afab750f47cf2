"""Promise 2: take, give and make."""

import unittest

from asking import BIG, THIRTY, ask_all, ask_last, cut, give, make, new, put, state, take

# 1 may take from 2, which has right 2 to the thing 3.
TAKING = [new(1), new(1), new(0), put(1, 2, 0), put(2, 3, 2)]
# 1 may give to 2, and has right 2 to the thing 3.
GIVING = [new(1), new(1), new(0), put(1, 2, 1), put(1, 3, 2)]
FULL_TAKING = [*THIRTY, cut(1, 9, 1), put(2, 9, 3)]


class Take(unittest.TestCase):
    def test_the_taker_has_the_right_then(self):
        self.assertEqual(ask_last(*TAKING, take(1, 2, 3, 2)), 3)
        self.assertEqual(state(*TAKING, take(1, 2, 3, 2)), state(*TAKING, put(1, 3, 2)))

    def test_every_right_can_be_taken(self):
        for r in range(4):
            self.assertEqual(ask_all(*TAKING, put(2, 3, r), take(1, 2, 3, r), cut(1, 3, r), cut(2, 3, r))[-3:],
                             [3 if r == 2 else 4, 2 if r == 2 else 3, 1 if r == 2 else 2])

    def test_from_a_thing(self):
        self.assertEqual(ask_last(new(1), new(0), new(1), put(1, 2, 0), put(2, 3, 1), take(1, 2, 3, 1)), 3)

    def test_over_several(self):
        self.assertEqual(ask_all(*TAKING, new(0), put(3, 4, 3), put(2, 3, 0), take(1, 2, 3, 0), take(1, 3, 4, 3)),
                         [1, 2, 3, 1, 2, 4, 3, 4, 5, 6])

    def test_an_edge_that_is_there_already(self):
        self.assertEqual(ask_all(*TAKING, take(1, 2, 3, 2), take(1, 2, 3, 2))[-2:], [3, 3])

    def test_without_the_right_to_take(self):
        for r in (1, 2, 3):
            self.assertEqual(ask_last(*TAKING, cut(1, 2, 0), put(1, 2, r), take(1, 2, 3, 2)), -6)
        self.assertEqual(ask_last(*TAKING, cut(1, 2, 0), put(2, 1, 0), take(1, 2, 3, 2)), -6)

    def test_what_the_other_does_not_have(self):
        for r in (0, 1, 3):
            self.assertEqual(ask_last(*TAKING, take(1, 2, 3, r)), -6)
        self.assertEqual(ask_last(*TAKING, cut(2, 3, 2), put(3, 2, 2), take(1, 2, 3, 2)), -6)
        self.assertEqual(ask_last(*TAKING, cut(2, 3, 2), put(1, 3, 2), take(1, 2, 3, 2)), -6)

    def test_by_a_thing(self):
        self.assertEqual(ask_last(new(0), new(1), new(1), put(1, 2, 0), put(2, 3, 2), take(1, 2, 3, 2)), -6)

    def test_two_alike(self):
        around = [*TAKING, put(2, 1, 2), put(2, 1, 0), put(1, 3, 0), put(1, 2, 2)]
        for x, y, z in ((1, 2, 1), (2, 1, 2), (1, 1, 2), (1, 2, 2), (1, 1, 1), (2, 2, 3)):
            for r in (0, 2):
                self.assertEqual(ask_last(*around, take(x, y, z, r)), -6)
        self.assertEqual(state(*around, take(1, 2, 1, 2)), state(*around))

    def test_one_that_is_not_there(self):
        for other in (0, 4, 10, 11, BIG):
            for x, y, z in ((other, 2, 3), (1, other, 3), (1, 2, other), (other, other, other)):
                self.assertEqual(ask_all(*TAKING, take(x, y, z, 2), take(1, 2, 3, 2))[-2:], [-6, 3])

    def test_right_above_three(self):
        for r in (4, 5, BIG):
            self.assertEqual(ask_last(*TAKING, take(1, 2, 3, r)), -1)

    def test_thirty_edges_are_the_most(self):
        self.assertEqual(ask_all(*FULL_TAKING, take(1, 2, 9, 3), cut(1, 9, 0), take(1, 2, 9, 3))[-4:],
                         [30, -5, 29, 30])

    def test_an_edge_that_is_there_is_taken_while_there_are_thirty(self):
        self.assertEqual(ask_all(*THIRTY, cut(1, 9, 1), put(2, 9, 0), take(1, 2, 9, 0))[-2:], [30, 30])

    def test_the_one_told_first(self):
        self.assertEqual(ask_last(take(0, 0, 0, 4)), -1)
        self.assertEqual(ask_last(take(BIG, BIG, BIG, BIG)), -1)
        self.assertEqual(ask_last(*THIRTY, take(1, 2, 9, 4)), -1)
        self.assertEqual(ask_last(*THIRTY, take(1, 2, 9, 3)), -6)
        self.assertEqual(ask_last(*THIRTY, take(2, 3, 9, 3)), -6)

    def test_a_refusal_changes_nothing(self):
        for refused in (take(1, 2, 3, 4), take(1, 2, 3, 3), take(2, 1, 3, 2), take(1, 2, 4, 2)):
            self.assertEqual(state(*TAKING, refused), state(*TAKING))
        self.assertEqual(state(*FULL_TAKING, take(1, 2, 9, 3)), state(*FULL_TAKING))


class Give(unittest.TestCase):
    def test_the_other_has_the_right_then(self):
        self.assertEqual(ask_last(*GIVING, give(1, 2, 3, 2)), 3)
        self.assertEqual(state(*GIVING, give(1, 2, 3, 2)), state(*GIVING, put(2, 3, 2)))

    def test_every_right_can_be_given(self):
        for r in range(4):
            self.assertEqual(ask_all(*GIVING, put(1, 3, r), give(1, 2, 3, r), cut(2, 3, r), cut(1, 3, r))[-3:],
                             [3 if r == 2 else 4, 2 if r == 2 else 3, 1 if r == 2 else 2])

    def test_to_a_thing(self):
        self.assertEqual(ask_last(new(1), new(0), new(1), put(1, 2, 1), put(1, 3, 0), give(1, 2, 3, 0)), 3)

    def test_an_edge_that_is_there_already(self):
        self.assertEqual(ask_all(*GIVING, give(1, 2, 3, 2), give(1, 2, 3, 2))[-2:], [3, 3])

    def test_without_the_right_to_give(self):
        for r in (0, 2, 3):
            self.assertEqual(ask_last(*GIVING, cut(1, 2, 1), put(1, 2, r), give(1, 2, 3, 2)), -6)
        self.assertEqual(ask_last(*GIVING, cut(1, 2, 1), put(2, 1, 1), give(1, 2, 3, 2)), -6)

    def test_what_the_giver_does_not_have(self):
        for r in (0, 1, 3):
            self.assertEqual(ask_last(*GIVING, give(1, 2, 3, r)), -6)
        self.assertEqual(ask_last(*GIVING, cut(1, 3, 2), put(2, 3, 2), give(1, 2, 3, 2)), -6)
        self.assertEqual(ask_last(*GIVING, cut(1, 3, 2), put(3, 1, 2), give(1, 2, 3, 2)), -6)

    def test_by_a_thing(self):
        self.assertEqual(ask_last(new(0), new(1), new(1), put(1, 2, 1), put(1, 3, 2), give(1, 2, 3, 2)), -6)

    def test_two_alike(self):
        around = [*GIVING, put(1, 2, 2), put(2, 1, 1), put(2, 1, 2), put(2, 3, 2)]
        for x, y, z in ((1, 2, 2), (2, 1, 1), (1, 2, 1), (1, 1, 2), (1, 1, 1), (2, 2, 3)):
            for r in (1, 2):
                self.assertEqual(ask_last(*around, give(x, y, z, r)), -6)
        self.assertEqual(state(*around, give(1, 2, 2, 2)), state(*around))

    def test_one_that_is_not_there(self):
        for other in (0, 4, 10, 11, BIG):
            for x, y, z in ((other, 2, 3), (1, other, 3), (1, 2, other), (other, other, other)):
                self.assertEqual(ask_all(*GIVING, give(x, y, z, 2), give(1, 2, 3, 2))[-2:], [-6, 3])

    def test_right_above_three(self):
        for r in (4, 5, BIG):
            self.assertEqual(ask_last(*GIVING, give(1, 2, 3, r)), -1)

    def test_thirty_edges_are_the_most(self):
        self.assertEqual(ask_all(*THIRTY, give(1, 2, 3, 3), cut(1, 9, 0), give(1, 2, 3, 3))[-3:], [-5, 29, 30])

    def test_an_edge_that_is_there_is_given_while_there_are_thirty(self):
        self.assertEqual(ask_all(*THIRTY, cut(1, 9, 1), put(2, 9, 0), give(1, 2, 9, 0))[-2:], [30, 30])

    def test_the_one_told_first(self):
        self.assertEqual(ask_last(give(0, 0, 0, 4)), -1)
        self.assertEqual(ask_last(give(BIG, BIG, BIG, BIG)), -1)
        self.assertEqual(ask_last(*THIRTY, give(1, 2, 3, 4)), -1)
        self.assertEqual(ask_last(*THIRTY, give(1, 2, 9, 3)), -6)
        self.assertEqual(ask_last(*THIRTY, give(2, 3, 9, 0)), -6)

    def test_a_refusal_changes_nothing(self):
        for refused in (give(1, 2, 3, 4), give(1, 2, 3, 3), give(2, 1, 3, 2), give(1, 2, 4, 2)):
            self.assertEqual(state(*GIVING, refused), state(*GIVING))
        self.assertEqual(state(*THIRTY, give(1, 2, 3, 3)), state(*THIRTY))


class Make(unittest.TestCase):
    def test_the_maker_has_these_rights_and_no_others(self):
        for rights in ([], [0], [3], [0, 2], [1, 2, 3], [0, 1, 2, 3]):
            puts = [put(1, 2, r) for r in rights]
            for s in (0, 1):
                self.assertEqual(ask_last(new(1), make(1, s, rights)), 2)
                self.assertEqual(state(new(1), make(1, s, rights)), state(new(1), new(s), *puts))

    def test_numbers_go_on(self):
        self.assertEqual(ask_all(new(1), make(1, 1, [0]), make(2, 0, [1]), new(0), make(1, 0, [])), [1, 2, 3, 4, 5])

    def test_what_is_made_can_act_if_it_is_a_subject(self):
        self.assertEqual(ask_all(new(1), make(1, 1, []), make(1, 0, []), make(2, 0, []), make(3, 0, [])),
                         [1, 2, 3, 4, -6])

    def test_s_above_one(self):
        for s in (2, BIG):
            self.assertEqual(ask_all(new(1), make(1, s, [0]), make(1, 0, [0])), [1, -1, 2])

    def test_rights_that_do_not_rise(self):
        for rights in ([1, 0], [0, 2, 1], [3, 2, 1, 0], [0, 0], [2, 2], [3, 3], [0, 1, 1], [1, 2, 0]):
            self.assertEqual(ask_all(new(1), make(1, 0, rights), make(1, 0, [0])), [1, -1, 2])

    def test_a_right_above_three(self):
        for rights in ([4], [BIG], [0, 4], [0, 1, 2, 3, 4], [0, BIG], [BIG, 0]):
            self.assertEqual(ask_all(new(1), make(1, 0, rights), make(1, 0, [0])), [1, -1, 2])

    def test_twenty_rights(self):
        for rights in (list(range(20)), [0] * 20, [3] * 20, [BIG] * 20, [0, 1, 2, 3] * 5):
            self.assertEqual(ask_all(new(1), make(1, 0, rights), make(1, 0, [0])), [1, -1, 2])

    def test_by_a_thing_or_by_one_that_is_not_there(self):
        for x in (0, 2, 3, 11, BIG):
            for rights in ([], [0, 3]):
                self.assertEqual(ask_all(new(1), new(0), make(x, 1, rights), make(1, 1, [])), [1, 2, -6, 3])

    def test_ten_are_the_most(self):
        self.assertEqual(ask_all(*[new(1)] * 9, make(9, 0, [2]), make(9, 0, []), make(1, 1, [0]))[-3:], [10, -5, -5])

    def test_thirty_edges_are_the_most(self):
        self.assertEqual(ask_all(*THIRTY, make(1, 0, [3]), make(1, 0, []), put(1, 2, 0))[-3:], [-5, 10, 30])
        self.assertEqual(ask_all(*THIRTY, cut(1, 9, 0), make(2, 1, [0, 1]), make(2, 1, [3]), put(1, 2, 0))[-3:],
                         [-5, 10, 30])
        self.assertEqual(ask_all(*THIRTY, *[cut(1, 2, r) for r in range(4)], make(1, 0, [0, 1, 2, 3]),
                                 put(1, 3, 0))[-2:], [10, 30])
        self.assertEqual(ask_last(*THIRTY, *[cut(1, 2, r) for r in range(3)], make(1, 0, [0, 1, 2, 3])), -5)

    def test_the_one_told_first(self):
        ten = [new(1), new(0)] * 5
        for x in (2, 0, BIG):
            self.assertEqual(ask_last(*ten, make(x, 2, [])), -1)
            self.assertEqual(ask_last(*ten, make(x, 0, [1, 1])), -1)
            self.assertEqual(ask_last(*ten, make(x, 0, [4])), -1)
            self.assertEqual(ask_last(*ten, make(x, 0, [0])), -6)
        self.assertEqual(ask_last(*ten, make(1, 2, [0])), -1)
        self.assertEqual(ask_last(*ten, make(1, 1, [1, 0])), -1)
        self.assertEqual(ask_last(*THIRTY, make(9, 0, [0])), -6)
        self.assertEqual(ask_last(*THIRTY, make(1, 0, [0, 4])), -1)

    def test_a_refusal_changes_nothing(self):
        for refused in (make(1, 2, [0]), make(1, 0, [0, 0]), make(1, 0, [0, 4]), make(3, 0, [0]), make(0, 0, [])):
            self.assertEqual(state(*TAKING, refused), state(*TAKING))
        for refused in (make(1, 0, [0]), make(9, 0, [])):
            self.assertEqual(state(*THIRTY, refused), state(*THIRTY))
        ten = [*[new(1)] * 10, put(1, 2, 0)]
        self.assertEqual(state(*ten, make(1, 0, [3])), state(*ten))


if __name__ == "__main__":
    unittest.main()

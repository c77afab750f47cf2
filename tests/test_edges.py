"""Promise 1: new, put and cut."""

import unittest

from asking import BIG, THIRTY, ask_all, ask_last, cut, make, new, put, state, take

PAIR = [new(1), new(0), put(1, 2, 2)]
TEN = [new(1), new(0)] * 5


class New(unittest.TestCase):
    def test_numbers_come_from_one_on(self):
        self.assertEqual(ask_all(new(1), new(0), new(0), new(1)), [1, 2, 3, 4])

    def test_one_is_a_subject_and_zero_a_thing(self):
        self.assertEqual(ask_all(new(1), new(0), make(2, 0, []), make(1, 0, [])), [1, 2, -6, 3])

    def test_s_above_one_is_refused(self):
        for s in (2, 3, BIG):
            self.assertEqual(ask_all(new(s), new(1)), [-1, 1])

    def test_ten_are_the_most(self):
        self.assertEqual(ask_all(*TEN), list(range(1, 11)))
        for s in (0, 1):
            self.assertEqual(ask_all(*TEN, new(s), new(s))[-2:], [-5, -5])

    def test_a_wrong_s_is_told_before_that_there_are_ten(self):
        for s in (2, BIG):
            self.assertEqual(ask_last(*TEN, new(s)), -1)

    def test_a_refusal_changes_nothing(self):
        self.assertEqual(state(*PAIR, new(2)), state(*PAIR))
        self.assertEqual(state(*TEN, put(1, 2, 0), new(1)), state(*TEN, put(1, 2, 0)))


class Put(unittest.TestCase):
    def test_answers_how_many_edges_there_are(self):
        self.assertEqual(ask_all(new(1), new(0), put(1, 2, 0), put(2, 1, 0), put(1, 2, 3)), [1, 2, 1, 2, 3])

    def test_every_right_is_an_edge_of_its_own(self):
        self.assertEqual(ask_all(new(0), new(0), *[put(1, 2, r) for r in range(4)])[2:], [1, 2, 3, 4])

    def test_an_edge_that_is_there_stays_there_once(self):
        self.assertEqual(ask_all(*PAIR, put(1, 2, 2), cut(1, 2, 2), cut(1, 2, 2)), [1, 2, 1, 1, 0, -3])

    def test_thirty_edges_are_the_most(self):
        self.assertEqual(ask_last(*THIRTY, put(1, 2, 0)), 30)
        self.assertEqual(ask_all(*THIRTY, put(2, 1, 0), cut(1, 2, 0), put(2, 1, 0), put(2, 1, 1))[-4:],
                         [-5, 29, 30, -5])

    def test_thirty_edges_put_one_by_one(self):
        edges = [(x, y, r) for r in range(4) for x in range(1, 5) for y in range(1, 5) if x != y]
        puts = [put(*edge) for edge in edges[:31]]
        self.assertEqual(ask_all(*[new(0)] * 4, *puts)[4:], list(range(1, 31)) + [-5])

    def test_an_edge_that_is_there_is_put_while_there_are_thirty(self):
        self.assertEqual(ask_all(*THIRTY, put(1, 9, 1), put(1, 5, 2))[-2:], [30, 30])


class Cut(unittest.TestCase):
    def test_answers_how_many_edges_there_are(self):
        self.assertEqual(ask_all(*PAIR, put(2, 1, 0), cut(1, 2, 2), cut(2, 1, 0)), [1, 2, 1, 2, 1, 0])

    def test_only_that_edge_goes(self):
        edges = [(1, 2, 0), (1, 2, 1), (2, 1, 0), (1, 3, 0), (3, 2, 0)]
        start = [new(1), new(1), new(1)]
        for gone in edges:
            others = [put(*edge) for edge in edges if edge != gone]
            puts = [put(*edge) for edge in edges]
            self.assertEqual(state(*start, *puts, cut(*gone)), state(*start, *others))

    def test_an_edge_that_is_not_there(self):
        for edge in ((2, 1, 2), (1, 2, 0), (1, 2, 1), (1, 2, 3)):
            self.assertEqual(ask_all(*PAIR, cut(*edge), put(1, 2, 2))[-2:], [-3, 1])

    def test_a_cut_edge_can_be_put_again(self):
        self.assertEqual(ask_all(*PAIR, cut(1, 2, 2), put(1, 2, 2)), [1, 2, 1, 0, 1])

    def test_a_refusal_changes_nothing(self):
        self.assertEqual(state(*PAIR, cut(2, 1, 2)), state(*PAIR))
        self.assertEqual(state(*PAIR, cut(1, 2, 4)), state(*PAIR))


class WrongEdges(unittest.TestCase):
    WRONG = [(0, 2, 2), (1, 0, 2), (0, 0, 2), (3, 2, 2), (1, 3, 2), (BIG, 2, 2), (1, BIG, 2), (BIG, BIG, 2),
             (0, BIG, 2), (1, 1, 2), (2, 2, 0), (1, 2, 4), (1, 2, BIG), (2, 1, 5), (1, 1, BIG), (0, 0, 0)]

    def test_put_and_cut_refuse_what_can_be_no_edge(self):
        for wrong in self.WRONG:
            self.assertEqual(ask_all(*PAIR, put(*wrong), cut(*wrong), put(1, 2, 2))[-3:], [-1, -1, 1])

    def test_this_is_told_before_that_there_are_thirty(self):
        for wrong in ((10, 1, 0), (1, 10, 0), (2, 2, 0), (2, 1, 4), (0, 1, 0), (BIG, 1, 0)):
            self.assertEqual(ask_all(*THIRTY, put(*wrong), put(2, 1, 0))[-2:], [-1, -5])

    def test_the_highest_right_and_the_lowest(self):
        self.assertEqual(ask_all(new(0), new(0), put(1, 2, 3), put(1, 2, 0), put(1, 2, 4)), [1, 2, 1, 2, -1])

    def test_a_refusal_changes_nothing(self):
        for wrong in ((1, 3, 2), (1, 1, 2), (1, 2, 4), (0, 1, 0)):
            self.assertEqual(state(*PAIR, put(*wrong)), state(*PAIR))
        self.assertEqual(state(*THIRTY, put(2, 1, 0)), state(*THIRTY))
        self.assertEqual(ask_last(*THIRTY, put(2, 1, 3), take(2, 1, 3, 3)), -6)


if __name__ == "__main__":
    unittest.main()

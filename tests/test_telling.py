"""Promise 3 for who, what and near, and what the document says of edges."""

import itertools
import unittest

import by_words
from asking import (BIG, THIRTY, ask, ask_row, can, cut, edges, flat, give, graph, make, near, new, put, shown, take,
                    what, who)

# 1 takes from 2, which has right 2 to the thing 4; 3 stands alone.
FOUR = graph("ssst", (1, 2, 0), (2, 4, 2))


class Who(unittest.TestCase):
    def check(self, expected, start, r, y):
        self.assertEqual(ask_row(*start, who(r, y)), [len(expected)] + expected)

    def test_those_that_can_come_to_have_it_and_those_that_have_it(self):
        self.check([1, 2], FOUR, 2, 4)
        self.check([1], FOUR, 0, 2)
        self.check([1, 3], [*FOUR, put(3, 2, 3), put(1, 2, 3)], 3, 2)

    def test_nobody(self):
        for r, y in ((3, 4), (0, 1), (1, 2), (2, 3)):
            self.check([], FOUR, r, y)

    def test_things_are_told_too(self):
        self.check([1, 3, 4], graph("sttt", (1, 3, 1), (4, 2, 2), (1, 4, 0)), 2, 2)
        self.check([2], graph("sttt", (2, 1, 3)), 3, 1)

    def test_the_one_asked_about_is_not_told(self):
        ring = [(1, 2, 0), (2, 3, 0), (3, 1, 0)]
        for y in (1, 2, 3):
            self.check([x for x in (1, 2, 3) if x != y], graph("sss", *ring), 0, y)

    def test_rising_whatever_the_edges_order(self):
        rows = [(x, 5, 3) for x in (1, 2, 3, 4, 6)]
        for order in itertools.permutations(rows, 5):
            self.check([1, 2, 3, 4, 6], graph("ststst", *order), 3, 5)

    def test_only_one_is_there(self):
        for s in (0, 1):
            for r in range(4):
                self.assertEqual(ask(new(s), who(r, 1), edges()), [[1], [0], [0]])

    def test_ten_are_there(self):
        self.check([2, 3, 4, 5, 6, 7, 8, 9, 10], [*graph("s" * 10), *[put(x, x + 1, 0) for x in range(1, 10)],
                                                  put(10, 1, 3)], 3, 1)

    def test_refusals(self):
        for r, y in ((2, 0), (2, 5), (2, 10), (2, 11), (2, BIG), (4, 4), (BIG, 4), (4, 0), (BIG, BIG), (5, 5)):
            self.assertEqual(ask_row(*FOUR, who(r, y)), [-1])
        self.check([], FOUR, 3, 4)
        self.assertEqual(ask(who(0, 1), who(0, 0), who(BIG, BIG)), [[-1], [-1], [-1]])


class What(unittest.TestCase):
    def check(self, expected, start, x):
        self.assertEqual(ask_row(*start, what(x)), flat(expected))

    def test_what_it_has_and_what_can_come_to_it(self):
        self.check([(2, 0), (4, 2)], FOUR, 1)
        self.check([(4, 2)], FOUR, 2)
        self.check([], FOUR, 3)
        self.check([], FOUR, 4)

    def test_the_lower_y_first_and_then_the_lower_r(self):
        rows = [(1, 3, 3), (1, 2, 2), (1, 3, 1), (1, 3, 0), (1, 2, 1)]
        for order in itertools.permutations(rows):
            self.check([(2, 1), (2, 2), (3, 0), (3, 1), (3, 3)], graph("stt", *order), 1)

    def test_every_right_to_every_other_one(self):
        self.check([(y, r) for y in range(2, 9) for r in range(4)] + [(9, 0), (9, 1)], THIRTY, 1)

    def test_a_thing(self):
        self.check([(3, 2)], graph("stt", (1, 2, 1), (1, 3, 2)), 2)
        self.check([(1, 3)], graph("stt", (2, 1, 3)), 2)
        self.check([(1, 3), (3, 0)], graph("stt", (1, 2, 1), (1, 3, 0), (3, 1, 3)), 2)

    def test_itself_is_not_told(self):
        self.check([(2, 0)], graph("ss", (1, 2, 0), (2, 1, 2)), 1)
        self.check([(1, 2)], graph("ss", (1, 2, 0), (2, 1, 2)), 2)

    def test_only_one_is_there(self):
        for s in (0, 1):
            self.assertEqual(ask(new(s), what(1)), [[1], [0]])

    def test_refusals(self):
        for x in (0, 5, 10, 11, BIG):
            self.assertEqual(ask_row(*FOUR, what(x)), [-1])
        self.assertEqual(ask(what(1), what(0), what(BIG)), [[-1], [-1], [-1]])


class Near(unittest.TestCase):
    def check(self, expected, start, *asked):
        for x in asked or expected:
            self.assertEqual(ask_row(*start, near(x)), [len(expected)] + expected)

    def test_x_itself(self):
        self.check([1], graph("s"))
        self.check([3], FOUR)
        self.check([2], graph("tst", (2, 1, 0), (2, 3, 1), (1, 3, 0)))

    def test_right_0_in_one_direction_and_in_the_other(self):
        self.check([1, 2], FOUR)
        self.check([1, 2], graph("sss", (2, 1, 0)))

    def test_right_1_in_one_direction_and_in_the_other(self):
        self.check([1, 3], graph("sss", (1, 3, 1)))
        self.check([1, 3], graph("sss", (3, 1, 1)))

    def test_other_rights_do_not_count(self):
        for r in (2, 3):
            self.check([1], graph("ss", (1, 2, r), (2, 1, r)))

    def test_right_0_over_things(self):
        self.check([1, 4], graph("stts", (1, 2, 0), (2, 3, 0), (3, 4, 0)))
        self.check([1], graph("stts", (1, 2, 0), (3, 2, 0), (3, 4, 0)))
        self.check([1], graph("stts", (1, 2, 0), (4, 3, 0), (3, 2, 0)))
        self.check([1], graph("stts", (2, 1, 0), (2, 4, 0)))

    def test_right_1_between_those_that_they_take_up_to(self):
        for edge in ((3, 4, 1), (4, 3, 1), (2, 4, 1), (4, 1, 1), (3, 5, 1), (5, 1, 1)):
            self.check([1, 5], graph("sttts", (1, 2, 0), (2, 3, 0), (5, 4, 0), edge))

    def test_right_1_twice_over_a_thing_is_not_enough(self):
        self.check([1], graph("sts", (1, 2, 1), (2, 3, 1)))
        self.check([1], graph("sts", (1, 2, 1), (3, 2, 1)))
        self.check([1], graph("sts", (2, 1, 1), (2, 3, 1)))

    def test_several_steps_of_handing_on(self):
        rows = [(1, 2, 0), (3, 2, 0), (3, 4, 1), (5, 4, 1)]
        for order in itertools.permutations((1, 2, 3, 4, 5)):
            self.check([1, 2, 3, 4, 5], graph("sssssts", *[(order[x - 1], order[y - 1], r) for x, y, r in rows]))
        self.check([3, 4, 5], graph("sssss", *rows[2:]))

    def test_a_thing_is_not_told(self):
        self.check([1, 3], graph("sts", (1, 2, 0), (2, 3, 0), (2, 3, 1)))

    def test_a_subject_that_may_be_given_to_by_a_thing_that_another_takes_from(self):
        self.check([1, 3], graph("sts", (3, 2, 0), (2, 1, 1)))

    def test_ten_in_a_row(self):
        row = [make(x, 1, [x % 2]) for x in range(1, 10)]
        self.check(list(range(1, 11)), [new(1), *row])
        self.check([1, 2, 3, 4], [new(1), *row, cut(4, 5, 0)])

    def test_refusals(self):
        for x in (0, 4, 5, 10, 11, BIG):
            self.assertEqual(ask_row(*FOUR, near(x)), [-1])
        self.assertEqual(ask(new(0), near(1), near(0)), [[1], [-1], [-1]])
        self.assertEqual(ask(near(1), near(BIG)), [[-1], [-1]])


class Edges(unittest.TestCase):
    def test_none(self):
        self.assertEqual(ask(edges()), [[0]])
        self.assertEqual(ask_row(*graph("sts"), edges()), [0])
        self.assertEqual(ask_row(*graph("ss", (1, 2, 0)), cut(1, 2, 0), edges()), [0])

    def test_in_the_order_in_which_they_came(self):
        rows = [(2, 1, 3), (1, 2, 0), (3, 1, 1), (1, 2, 2)]
        for order in itertools.permutations(rows):
            self.assertEqual(ask_row(*graph("sst", *order), edges()), flat(order))

    def test_one_that_was_cut_and_put_again_is_the_last(self):
        start = graph("sst", (2, 1, 3), (1, 2, 0), (3, 1, 1))
        self.assertEqual(ask_row(*start, cut(2, 1, 3), edges()), flat([(1, 2, 0), (3, 1, 1)]))
        self.assertEqual(ask_row(*start, cut(2, 1, 3), put(2, 1, 3), edges()),
                         flat([(1, 2, 0), (3, 1, 1), (2, 1, 3)]))

    def test_one_that_is_there_keeps_its_place(self):
        rows = [(1, 2, 0), (1, 3, 2), (2, 3, 2)]
        for again in (put(1, 2, 0), take(1, 2, 3, 2), put(1, 3, 2)):
            self.assertEqual(ask_row(*graph("sss", *rows), again, edges()), flat(rows))

    def test_after_steps(self):
        self.assertEqual(ask_row(new(1), make(1, 1, [0, 1]), make(2, 0, [2, 3]), take(1, 2, 3, 3), cut(1, 2, 0),
                                 make(1, 0, [1]), give(1, 2, 4, 1), edges()),
                         flat([(1, 2, 1), (2, 3, 2), (2, 3, 3), (1, 3, 3), (1, 4, 1), (2, 4, 1)]))

    def test_thirty(self):
        rows = [(1, y, r) for y in range(2, 9) for r in range(4)] + [(1, 9, 0), (1, 9, 1)]
        self.assertEqual(ask_row(*THIRTY, edges()), flat(rows))

    def test_refused_calls_bring_and_take_nothing(self):
        rows = [(1, 2, 0), (2, 3, 2)]
        for refused in (put(1, 1, 0), put(1, 4, 0), cut(2, 1, 0), take(2, 1, 3, 0), give(1, 2, 3, 2),
                        make(3, 0, [0]), make(1, 0, [1, 0]), new(2)):
            self.assertEqual(ask(*graph("sst", *rows), refused, edges(), new(0))[-2:], [flat(rows), [4]])


class AskingChangesNothing(unittest.TestCase):
    ASKED = [who(2, 4), who(4, 4), who(2, 5), what(1), what(0), near(1), near(4), near(BIG), edges()]

    def test_all_is_as_it_was(self):
        for asked in self.ASKED:
            self.assertEqual(shown(*FOUR, asked), shown(*FOUR))
            self.assertEqual(shown(*THIRTY, asked), shown(*THIRTY))

    def test_a_second_time_in_the_same_list_answers_the_same(self):
        found = ask(*FOUR, *self.ASKED, *self.ASKED)[len(FOUR):]
        self.assertEqual(found[:len(self.ASKED)], found[len(self.ASKED):])

    def test_it_is_told_of_the_graph_as_it_is_then(self):
        self.assertEqual(ask(*FOUR, near(1), cut(1, 2, 0), near(1), who(2, 4), what(1), put(3, 1, 1), put(2, 3, 0),
                             near(1), who(2, 4), what(1), edges())[len(FOUR):],
                         [[2, 1, 2], [1], [1, 1], [1, 2], [0], [2], [3],
                          [3, 1, 2, 3], [3, 1, 2, 3], [2, 3, 0, 4, 2], flat([(2, 4, 2), (3, 1, 1), (2, 3, 0)])])


class BesideTheWords(unittest.TestCase):
    def compare(self, kinds, rows):
        """near, who and what against what can and the document's sentences say."""
        subjects = [x for x, kind in enumerate(kinds, start=1) if kind == "s"]
        ones = range(1, len(kinds) + 1)
        start = graph(kinds, *rows)
        can_be = [(x, y, r) for x in ones for y in ones for r in range(4)
                  if x != y and by_words.can_be(r, x, y, subjects, rows)]
        for x in ones:
            rights = [(y, r) for a, y, r in can_be if a == x]
            self.assertEqual(ask_row(*start, what(x)), flat(rights), (kinds, rows, x))
            near_ones = sorted(by_words.near_ones(x, subjects, rows))
            expected = [len(near_ones)] + near_ones if x in subjects else [-1]
            self.assertEqual(ask_row(*start, near(x)), expected, (kinds, rows, x))
            for r in range(4):
                others = [a for a, y, right in can_be if (y, right) == (x, r)]
                self.assertEqual(ask_row(*start, who(r, x)), [len(others)] + others, (kinds, rows, r, x))

    def test_many_graphs(self):
        seed = 11
        for turn in range(60):
            kinds = ("ststst", "ttstsss", "sttst", "ssttts", "tstss", "ssssssss")[turn % 6]
            possible = [(x, y, r) for x, y in itertools.permutations(range(1, len(kinds) + 1), 2)
                        for r in (0, 0, 0, 1, 1, 1, 2, 3)]
            rows = {}
            while len(rows) < 4 + turn % 12:
                seed = (seed * 1103515245 + 12345) % 2 ** 31
                rows[possible[(seed >> 8) % len(possible)]] = True
            self.compare(kinds, list(rows))

    def test_who_and_can_agree_at_ten(self):
        start = [*THIRTY, new(1), cut(1, 9, 1), put(10, 1, 0)]
        for r, y in ((0, 9), (3, 2), (0, 1), (2, 10)):
            asked = [x for x in range(1, 11) if x != y]
            told = ask(*start, who(r, y), *[can(r, x, y) for x in asked])[len(start):]
            self.assertEqual(told[0][1:], [x for x, answer in zip(asked, told[1:]) if answer == [1]])
            self.assertEqual(told[0][0], len(told[0]) - 1)


if __name__ == "__main__":
    unittest.main()

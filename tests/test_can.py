"""Promise 1 for can, and what the document says of what can be."""

import itertools
import unittest

from asking import BIG, THIRTY, ask_all, ask_last, can, cut, give, graph, make, new, put, state, take
from by_steps import edges_that_can_be


class Cases(unittest.TestCase):
    def check(self, expected, start, *asked):
        for r, x, y in asked:
            with self.subTest(r=r, x=x, y=y):
                self.assertEqual(ask_last(*start, can(r, x, y)), expected)


class Having(Cases):
    def test_one_that_has_it(self):
        for kinds in ("ss", "st", "ts", "tt"):
            for r in range(4):
                self.check(1, graph(kinds, (1, 2, r)), (r, 1, 2))

    def test_nobody_has_it(self):
        self.check(0, graph("ss"), *[(r, 1, 2) for r in range(4)])
        self.check(0, graph("ss", (1, 2, 0), (2, 1, 1)), (2, 1, 2), (3, 2, 1))

    def test_another_right_or_the_other_direction_is_not_it(self):
        self.check(0, graph("ss", (1, 2, 2)), (3, 1, 2), (0, 1, 2), (1, 1, 2), (2, 2, 1))
        self.check(0, graph("sss", (1, 2, 0), (3, 2, 2)), (2, 1, 3), (2, 1, 2))

    def test_others_that_have_it_do_not_help_by_themselves(self):
        self.check(0, graph("sst", (2, 3, 2)), (2, 1, 3))
        self.check(0, graph("sst", (2, 3, 2), (1, 2, 2), (2, 1, 3)), (2, 1, 3))


class Taking(Cases):
    def test_from_one(self):
        for r in range(4):
            for kinds in ("sst", "stt", "sts", "sss"):
                self.check(1, graph(kinds, (1, 2, 0), (2, 3, r)), (r, 1, 3))

    def test_over_several(self):
        row = [(x, x + 1, 0) for x in range(1, 9)]
        self.check(1, graph("sttttttttt", *row, (9, 10, 3)), (3, 1, 10))
        self.check(0, graph("sttttttttt", *row[:4], *row[5:], (9, 10, 3)), (3, 1, 10))
        self.check(0, graph("tttttttttt", *row, (9, 10, 3)), (3, 1, 10))

    def test_over_a_ring(self):
        self.check(1, graph("sttt", (1, 2, 0), (2, 3, 0), (3, 1, 0), (3, 4, 2)), (2, 1, 4))
        self.check(0, graph("sttt", (1, 2, 0), (2, 3, 0), (3, 1, 0), (4, 2, 2)), (2, 1, 4))

    def test_over_the_one_that_it_is_about(self):
        self.check(1, graph("stt", (1, 2, 0), (2, 3, 0), (3, 2, 2)), (2, 1, 2))

    def test_a_right_to_take_in_the_other_direction(self):
        self.check(1, graph("sst", (2, 1, 0), (2, 3, 2)), (2, 1, 3))
        self.check(0, graph("stt", (2, 1, 0), (2, 3, 2)), (2, 1, 3))

    def test_from_above_over_things(self):
        self.check(1, graph("sstt", (2, 3, 0), (3, 1, 0), (2, 4, 2)), (2, 1, 4))

    def test_two_that_take_from_one_thing_do_not_hand_on(self):
        self.check(0, graph("sstt", (1, 3, 0), (2, 3, 0), (2, 4, 2)), (2, 1, 4))

    def test_two_that_one_thing_may_take_from_do_not_hand_on(self):
        self.check(0, graph("sstt", (3, 1, 0), (3, 2, 0), (2, 4, 2)), (2, 1, 4))

    def test_two_that_one_subject_may_take_from(self):
        self.check(1, graph("ssst", (3, 1, 0), (3, 2, 0), (2, 4, 2)), (2, 1, 4))


class Giving(Cases):
    def test_in_one_direction_and_in_the_other(self):
        self.check(1, graph("sst", (2, 1, 1), (2, 3, 2)), (2, 1, 3))
        self.check(1, graph("sst", (1, 2, 1), (2, 3, 2)), (2, 1, 3))

    def test_between_those_that_they_take_up_to(self):
        around = [(1, 3, 0), (3, 4, 0), (2, 5, 0), (2, 6, 2)]
        self.check(1, graph("sstttt", *around, (4, 5, 1)), (2, 1, 6))
        self.check(1, graph("sstttt", *around, (5, 4, 1)), (2, 1, 6))
        for edge in ((4, 5, 2), (4, 5, 3), (4, 6, 1)):
            self.check(0, graph("sstttt", *around, edge), (2, 1, 6))

    def test_to_a_thing_that_the_other_takes_from(self):
        self.check(1, graph("sstt", (2, 3, 1), (1, 3, 0), (2, 4, 2)), (2, 1, 4))
        self.check(1, graph("sstt", (2, 3, 0), (1, 3, 1), (2, 4, 2)), (2, 1, 4))

    def test_two_that_give_to_one_thing_do_not_hand_on(self):
        self.check(0, graph("sstt", (2, 3, 1), (1, 3, 1), (2, 4, 2)), (2, 1, 4))

    def test_two_rights_to_give_in_a_row_over_a_thing(self):
        self.check(0, graph("sstt", (2, 3, 1), (3, 1, 1), (2, 4, 2)), (2, 1, 4))

    def test_a_right_that_only_a_thing_below_has(self):
        self.check(1, graph("sstt", (2, 1, 1), (2, 3, 0), (3, 4, 2)), (2, 1, 4))
        self.check(0, graph("sstt", (2, 1, 1), (2, 3, 1), (3, 4, 2)), (2, 1, 4))


class NearOnes(Cases):
    ROW = [(1, 2, 0), (3, 2, 0), (3, 4, 1), (5, 4, 1), (5, 6, 2)]

    def test_through_several(self):
        self.check(1, graph("ssssst", *self.ROW), (2, 1, 6), (2, 2, 6), (2, 3, 6), (2, 4, 6))

    def test_each_link_is_needed(self):
        for gone in range(5):
            left = self.ROW[:gone] + self.ROW[gone + 1:]
            self.check(0, graph("ssssst", *left), (2, 1, 6))

    def test_each_on_the_way_must_be_a_subject(self):
        self.check(0, graph("stssst", *self.ROW), (2, 1, 6))
        self.check(0, graph("sstsst", *self.ROW), (2, 1, 6))
        self.check(0, graph("sssstt", *self.ROW), (2, 1, 6))

    def test_the_row_may_begin_with_any_number(self):
        for order in itertools.permutations(range(1, 6)):
            edges = [(order[x - 1], order[y - 1] if y < 6 else 6, r) for x, y, r in self.ROW]
            self.check(1, graph("ssssst", *edges), (2, order[0], 6))

    def test_the_one_it_is_about_may_help(self):
        self.check(1, graph("sst", (2, 1, 0), (2, 3, 0), (3, 2, 3)), (3, 1, 2))

    def test_rights_come_together_from_several(self):
        self.check(1, graph("ssssstt", *self.ROW, (4, 7, 0), (7, 1, 3)), (3, 5, 1), (3, 2, 1))


class Things(Cases):
    def test_a_subject_can_give_to_it(self):
        self.check(1, graph("stt", (1, 2, 1), (1, 3, 2)), (2, 2, 3))
        self.check(0, graph("stt", (1, 2, 0), (1, 3, 2)), (2, 2, 3))

    def test_a_subject_takes_up_to_one_that_may_give_to_it(self):
        self.check(1, graph("sttt", (1, 4, 0), (4, 2, 1), (1, 3, 2)), (2, 2, 3))
        self.check(0, graph("sttt", (1, 4, 1), (4, 2, 1), (1, 3, 2)), (2, 2, 3))

    def test_one_near_the_giver_has_it(self):
        self.check(1, graph("stts", (1, 2, 1), (4, 1, 0), (4, 3, 2)), (2, 2, 3))
        self.check(0, graph("stts", (1, 2, 1), (4, 3, 2)), (2, 2, 3))

    def test_only_one_of_several_givers_is_near_the_owner(self):
        self.check(1, graph("sstt", (1, 3, 1), (2, 3, 1), (2, 4, 2)), (2, 3, 4))

    def test_the_giver_itself_is_what_it_is_about(self):
        self.check(1, graph("stt", (1, 2, 1), (1, 3, 0), (3, 1, 2)), (2, 2, 1))

    def test_a_thing_does_not_take(self):
        self.check(0, graph("tst", (1, 2, 0), (2, 3, 2)), (2, 1, 3))

    def test_only_things_on_the_way(self):
        self.check(0, graph("tttt", (1, 2, 0), (2, 1, 1), (2, 3, 2), (3, 4, 0)), (2, 1, 3))
        self.check(0, graph("tsst", (2, 1, 1), (3, 4, 2)), (2, 1, 4))


class Wrong(Cases):
    START = graph("sst", (1, 2, 0), (2, 3, 2))

    def test_one_that_is_not_there(self):
        for other in (0, 4, 10, 11, BIG):
            self.check(-1, self.START, (2, other, 3), (2, 1, other), (2, other, other))

    def test_the_same(self):
        self.check(-1, self.START, (2, 1, 1), (0, 2, 2), (3, 3, 3))

    def test_a_right_above_three(self):
        self.check(-1, self.START, (4, 1, 3), (BIG, 1, 3), (BIG, BIG, BIG), (4, 0, 0), (4, 1, 1))

    def test_asking_changes_nothing(self):
        self.assertEqual(state(*self.START, can(2, 1, 3)), state(*self.START))
        self.assertEqual(state(*self.START, can(2, 1, 4)), state(*self.START))
        self.assertEqual(state(*THIRTY, can(2, 9, 8)), state(*THIRTY))

    def test_it_is_told_of_the_graph_as_it_is_then(self):
        self.assertEqual(ask_all(*self.START, can(2, 1, 3), cut(1, 2, 0), can(2, 1, 3), put(2, 1, 1), can(2, 1, 3),
                                 give(2, 1, 3, 2), cut(2, 1, 1), can(2, 1, 3), cut(1, 3, 2), can(2, 1, 3))[5:],
                         [1, 1, 0, 2, 1, 3, 2, 1, 1, 0])

    def test_it_is_told_though_no_room_is_left(self):
        full = [*THIRTY, cut(1, 9, 1), put(2, 9, 3), new(1)]
        self.assertEqual(ask_all(*full, can(3, 1, 9), take(1, 2, 9, 3), make(1, 1, [0]), can(3, 8, 9), can(3, 10, 9))[-5:],
                         [1, -5, -5, 1, 0])


class BesideTheSteps(unittest.TestCase):
    def compare(self, kinds, edges):
        """Every answer against what comes of doing the steps."""
        subjects = [x for x, kind in enumerate(kinds, start=1) if kind == "s"]
        reached = edges_that_can_be(subjects, edges)
        start = graph(kinds, *edges)
        pairs = itertools.permutations(range(1, len(kinds) + 1), 2)
        asked = [(x, y, r) for x, y in pairs for r in range(3)]
        room = 40 - len(start)
        for first in range(0, len(asked), room):
            part = asked[first:first + room]
            found = ask_all(*start, *[can(r, x, y) for x, y, r in part])[len(start):]
            self.assertEqual(found, [int(edge in reached) for edge in part], (kinds, edges, part))

    def test_every_graph_of_three_with_three_edges(self):
        pairs = itertools.permutations((1, 2, 3), 2)
        possible = [(x, y, r) for x, y in pairs for r in range(3)]
        for kinds in ("sss", "sst", "sts", "tss", "stt", "tts"):
            for edges in itertools.combinations(possible, 3):
                self.compare(kinds, list(edges))

    def test_many_graphs_of_five(self):
        pairs = itertools.permutations((1, 2, 3, 4, 5), 2)
        possible = [(x, y, r) for x, y in pairs for r in range(3)]
        seed = 1
        for turn in range(1500):
            kinds = ("ststs", "ttsts", "sttst", "ssttt", "tstss", "sssss")[turn % 6]
            edges = {}
            while len(edges) < 4 + turn % 5:
                seed = (seed * 1103515245 + 12345) % 2 ** 31
                edges[possible[(seed >> 8) % len(possible)]] = True
            self.compare(kinds, list(edges))


if __name__ == "__main__":
    unittest.main()

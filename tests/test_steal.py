"""Promise 1 for steal, and what the document says of what can be stolen."""

import itertools
import unittest

import by_words
from asking import BIG, THIRTY, ask_all, ask_last, can, cut, graph, put, shown, steal
from by_steps import thieves


class Cases(unittest.TestCase):
    def check(self, expected, start, *asked):
        for r, x, y in asked:
            with self.subTest(r=r, x=x, y=y):
                self.assertEqual(ask_last(*start, steal(r, x, y)), expected)

    def check_only_given(self, start, *asked):
        """It can be, but it can't be stolen."""
        self.check(0, start, *asked)
        for r, x, y in asked:
            self.assertEqual(ask_last(*start, can(r, x, y)), 1)


class Owning(Cases):
    def test_one_that_has_it_already(self):
        for r in range(4):
            self.check_only_given(graph("sst", (1, 2, 0), (2, 3, r), (1, 3, r)), (r, 1, 3))
        self.check_only_given(graph("ss", (1, 2, 0)), (0, 1, 2))

    def test_nobody_has_it(self):
        self.check(0, graph("sst", (1, 2, 0)), (2, 1, 3), (0, 1, 3))
        self.check(0, graph("sst", (1, 2, 0), (2, 3, 2)), (3, 1, 3), (2, 1, 2), (2, 2, 1))

    def test_one_of_several_owners_is_enough(self):
        for owned in ([(2, 5, 2), (3, 5, 2)], [(3, 5, 2), (2, 5, 2)]):
            start = graph("sssst", (2, 1, 1), (4, 3, 0), (1, 4, 1), *owned)
            self.check(1, start, (2, 1, 5))
            self.check_only_given([*start, cut(3, 5, 2)], (2, 1, 5))


class Taking(Cases):
    def test_x_may_take_from_the_owner(self):
        for kinds in ("sss", "sst", "sts", "stt"):
            for r in range(4):
                self.check(1, graph(kinds, (1, 2, 0), (2, 3, r)), (r, 1, 3))

    def test_over_several(self):
        self.check(1, graph("sttt", (1, 2, 0), (2, 3, 0), (3, 4, 2)), (2, 1, 4))

    def test_a_thing_does_not_take(self):
        self.check(0, graph("tst", (1, 2, 0), (2, 3, 2)), (2, 1, 3))

    def test_another_right_to_the_owner_is_not_enough(self):
        for r in (1, 2, 3):
            self.check(0, graph("sst", (1, 2, r), (2, 3, 2)), (2, 1, 3))

    def test_somebody_near_may_take_from_the_owner(self):
        self.check(1, graph("ssst", (3, 2, 0), (3, 1, 1), (2, 4, 2)), (2, 1, 4))
        self.check(1, graph("ssst", (3, 2, 0), (1, 3, 1), (2, 4, 2)), (2, 1, 4))
        self.check(0, graph("ssst", (3, 2, 0), (2, 4, 2)), (2, 1, 4))

    def test_the_owner_may_do_all_else(self):
        self.check(1, graph("ssst", (2, 1, 1), (3, 2, 0), (2, 4, 2)), (2, 1, 4), (2, 3, 4))

    def test_y_itself_may_help(self):
        self.check(1, graph("sss", (3, 2, 0), (3, 1, 1), (2, 3, 2)), (2, 1, 3))


class OnlyGiven(Cases):
    def test_only_the_owner_can_give_it(self):
        self.check_only_given(graph("sst", (2, 1, 1), (2, 3, 2)), (2, 1, 3))
        self.check_only_given(graph("sst", (1, 2, 1), (2, 3, 2)), (2, 1, 3))

    def test_the_owner_may_take_from_x(self):
        self.check_only_given(graph("sst", (2, 1, 0), (2, 3, 2)), (2, 1, 3))

    def test_a_thing_has_the_right_to_take_but_nobody_takes_from_it(self):
        self.check_only_given(graph("ssts", (2, 1, 1), (2, 4, 2), (3, 2, 0)), (2, 1, 4))


class Things(Cases):
    def test_a_subject_that_may_take_from_the_owner_can_give_to_it(self):
        start = graph("stts", (1, 4, 0), (4, 3, 2))
        self.check(1, [*start, put(1, 2, 1)], (2, 2, 3))
        for r in (0, 2, 3):
            self.check(0, [*start, put(1, 2, r)], (2, 2, 3))

    def test_the_subject_takes_up_to_one_that_may_give_to_it(self):
        start = graph("sttst", (1, 4, 0), (4, 3, 2), (5, 2, 1))
        self.check(1, [*start, put(1, 5, 0)], (2, 2, 3))
        self.check(0, start, (2, 2, 3))

    def test_the_second_of_two_bringers_can(self):
        self.check(1, graph("sstst", (1, 3, 1), (2, 3, 1), (2, 4, 0), (4, 5, 2)), (2, 3, 5))


class OwnerBrings(Cases):
    """2 is a thing, and the subject 1, that has right 2 to the thing 3, alone may give to it."""
    EDGES = [(1, 2, 1), (1, 3, 2)]

    def test_right_0_to_itself_can_not_come_to_it(self):
        self.check_only_given(graph("stt", *self.EDGES), (2, 2, 3))
        self.check_only_given(graph("stts", *self.EDGES, (1, 4, 0)), (2, 2, 3))
        self.check_only_given(graph("sttt", *self.EDGES, (4, 1, 0)), (2, 2, 3))

    def test_another_subject_has_right_0_to_it(self):
        self.check(1, graph("stts", *self.EDGES, (4, 1, 0)), (2, 2, 3))
        self.check(1, graph("sttst", *self.EDGES, (4, 5, 0), (5, 1, 0)), (2, 2, 3))

    def test_it_takes_up_to_a_thing_that_has_right_0_to_it(self):
        self.check(1, graph("sttt", *self.EDGES, (4, 1, 0), (1, 4, 0)), (2, 2, 3))

    def test_the_same_where_x_is_a_subject(self):
        self.check_only_given(graph("sst", *self.EDGES), (2, 2, 3))
        self.check(1, graph("ssts", *self.EDGES, (4, 1, 0)), (2, 2, 3))


class Wrong(Cases):
    START = graph("sst", (1, 2, 0), (2, 3, 2))

    def test_one_that_is_not_there(self):
        for other in (0, 4, 10, 11, BIG):
            self.check(-1, self.START, (2, other, 3), (2, 1, other), (2, other, other))

    def test_the_same(self):
        self.check(-1, self.START, (2, 1, 1), (0, 2, 2), (3, 3, 3))

    def test_a_right_above_three(self):
        self.check(-1, self.START, (4, 1, 3), (BIG, 1, 3), (BIG, BIG, BIG), (4, 0, 0), (4, 1, 1))
        self.check(1, self.START, (2, 1, 3))
        self.check(0, self.START, (0, 1, 3), (3, 1, 3))

    def test_nobody_is_there(self):
        self.check(-1, [], (0, 0, 0), (0, 1, 2), (BIG, BIG, BIG))

    def test_asking_changes_nothing(self):
        for asked in (steal(2, 1, 3), steal(2, 1, 4), steal(4, 1, 3)):
            self.assertEqual(shown(*self.START, asked), shown(*self.START))
        self.assertEqual(shown(*THIRTY, steal(2, 9, 8)), shown(*THIRTY))

    def test_it_is_told_of_the_graph_as_it_is_then(self):
        self.assertEqual(ask_all(*self.START, steal(2, 1, 3), cut(1, 2, 0), steal(2, 1, 3), put(1, 2, 0), put(1, 3, 2),
                                 steal(2, 1, 3), cut(1, 3, 2), steal(2, 1, 3))[5:],
                         [1, 1, 0, 2, 3, 0, 2, 1])


class Comparing(unittest.TestCase):
    def ask_every(self, kinds, edges):
        """Each x, y and r with what is answered of it."""
        start = graph(kinds, *edges)
        pairs = itertools.permutations(range(1, len(kinds) + 1), 2)
        asked = [(x, y, r) for x, y in pairs for r in range(3)]
        found = []
        room = 40 - len(start)
        for first in range(0, len(asked), room):
            part = asked[first:first + room]
            found.extend(ask_all(*start, *[steal(r, x, y) for x, y, r in part])[len(start):])
        return zip(asked, found)

    def compare(self, kinds, edges):
        subjects = [x for x, kind in enumerate(kinds, start=1) if kind == "s"]
        stolen = {(y, r): thieves(r, y, subjects, edges) for y, r in {edge[1:] for edge in edges}}
        for (x, y, r), found in self.ask_every(kinds, edges):
            place = (kinds, edges, x, y, r)
            self.assertEqual(found, int(by_words.can_steal(r, x, y, subjects, edges)), place)
            by_steps = int(x in stolen.get((y, r), []))
            if r == 0 and any((s, y, 0) in edges and (y, s, 0) in edges for s in subjects):
                self.assertGreaterEqual(found, by_steps, place)
            else:
                self.assertEqual(found, by_steps, place)

    def test_where_the_steps_and_the_way_to_find_it_out_part(self):
        # The owner 1 alone takes from the thing 2, which alone has right 0 to it, and can't take a right to itself:
        # by the steps it would have to give away just what is to be stolen. The document's last sentence says 1.
        edges = [(1, 2, 0), (2, 1, 0), (3, 2, 1)]
        self.assertEqual(thieves(0, 2, [1, 3], edges), [])
        self.assertEqual(ask_last(*graph("sts", *edges), steal(0, 3, 2)), 1)

    def test_every_graph_of_three_with_two_edges(self):
        possible = [(x, y, r) for x, y in itertools.permutations((1, 2, 3), 2) for r in range(3)]
        for kinds in map("".join, itertools.product("st", repeat=3)):
            for edges in itertools.combinations(possible, 2):
                self.compare(kinds, list(edges))

    def test_many_graphs_of_four_and_five(self):
        seed = 7
        for turn in range(300):
            kinds = ("ststs", "ttst", "sttst", "sstt", "tstss", "ssss", "stst")[turn % 7]
            pairs = itertools.permutations(range(1, len(kinds) + 1), 2)
            possible = [(x, y, r) for x, y in pairs for r in (0, 0, 1, 1, 2)]
            edges = {}
            while len(edges) < 3 + turn % 5:
                seed = (seed * 1103515245 + 12345) % 2 ** 31
                edges[possible[(seed >> 8) % len(possible)]] = True
            self.compare(kinds, list(edges))


if __name__ == "__main__":
    unittest.main()

"""Promises 1 and 3 for fewest, and what the document says of the edges that would have to be cut."""

import itertools
import unittest

import by_words
from asking import BIG, THIRTY, ask, ask_row, can, cut, edges, fewest, flat, graph, make, new, put, shown

# 1 takes from 2 and from 3, and both have right 2 to the thing 4.
TWO_WAYS = [(1, 2, 0), (1, 3, 0), (2, 4, 2), (3, 4, 2)]


def owners(how_many):
    """A subject that takes from so many things that have right 2 to the last one."""
    last = how_many + 2
    rows = [(1, x, 0) for x in range(2, last)] + [(x, last, 2) for x in range(2, last)]
    return graph("s" + "t" * (how_many + 1), *rows)


class Cases(unittest.TestCase):
    def check(self, expected, start, r, x, y):
        with self.subTest(r=r, x=x, y=y):
            self.assertEqual(ask_row(*start, fewest(r, x, y)), flat(expected))

    def check_too_many(self, start, r, x, y):
        with self.subTest(r=r, x=x, y=y):
            self.assertEqual(ask_row(*start, fewest(r, x, y)), [-7])


class HowMany(Cases):
    def test_none_where_it_can_not_be(self):
        self.check([], graph("ss"), 2, 1, 2)
        self.check([], graph("sst", (1, 2, 0), (2, 3, 2)), 3, 1, 3)
        self.check([], graph("tst", (1, 2, 0), (2, 3, 2)), 2, 1, 3)

    def test_one(self):
        self.check([(1, 2, 3)], graph("ss", (1, 2, 3)), 3, 1, 2)
        self.check([(1, 2, 3)], graph("tt", (2, 1, 3), (1, 2, 3)), 3, 1, 2)
        self.check([(1, 2, 0)], graph("sst", (1, 2, 0), (2, 3, 2)), 2, 1, 3)
        self.check([(2, 3, 2)], graph("sst", (2, 3, 2), (1, 2, 0)), 2, 1, 3)

    def test_two(self):
        self.check([(1, 2, 0), (1, 3, 0)], graph("sttt", *TWO_WAYS), 2, 1, 4)
        links = [(1, 2, 0), (2, 1, 1), (2, 3, 2), (2, 4, 0), (4, 3, 2)]
        self.check([(1, 2, 0), (2, 1, 1)], graph("sstt", *links), 2, 1, 3)

    def test_three(self):
        self.check([(1, 2, 0), (1, 3, 0), (1, 4, 0)], owners(3), 2, 1, 5)

    def test_more_than_three(self):
        self.check_too_many(owners(4), 2, 1, 6)
        self.check_too_many(owners(8), 2, 1, 10)

    def test_four_links_and_one_owner(self):
        links = [(1, 2, 0), (2, 1, 0), (1, 2, 1), (2, 1, 1)]
        self.check([(2, 3, 2)], graph("sst", *links, (2, 3, 2)), 2, 1, 3)
        self.check_too_many(graph("sstsss", *links, (2, 3, 2), (4, 3, 2), (5, 3, 2), (6, 3, 2),
                                  (2, 4, 0), (2, 5, 0), (2, 6, 0)), 2, 1, 3)

    def test_exactly_three_of_many_edges(self):
        self.check([(1, 2, 0), (2, 1, 0), (2, 1, 1)],
                   graph("sstsss", (1, 2, 0), (2, 1, 0), (2, 1, 1), (2, 3, 2), (4, 3, 2), (5, 3, 2), (6, 3, 2),
                         (2, 4, 0), (2, 5, 0), (2, 6, 0)), 2, 1, 3)

    def test_an_edge_that_all_ways_need(self):
        self.check([(1, 2, 0)], graph("sttt", (2, 3, 2), (2, 4, 0), (4, 3, 2), (1, 2, 0)), 2, 1, 3)

    def test_an_edge_that_serves_twice(self):
        # 1's right 1 to 2 is what is asked for, and 1 and 3 hand on by it.
        self.check([(1, 2, 1)], graph("sts", (1, 2, 1), (3, 2, 0)), 1, 3, 2)
        self.check([(3, 2, 0)], graph("sts", (3, 2, 0), (1, 2, 1)), 1, 3, 2)
        self.check([(1, 2, 1)], graph("sts", (3, 2, 0), (1, 3, 1), (1, 2, 1)), 1, 3, 2)

    def test_a_thing_that_two_can_give_to(self):
        self.check([(1, 3, 1), (2, 3, 1)], graph("sstt", (1, 3, 1), (2, 3, 1), (1, 4, 2), (2, 4, 2)), 2, 3, 4)
        self.check([(1, 4, 2)], graph("sstt", (1, 3, 1), (2, 3, 1), (1, 4, 2), (2, 1, 0))
                   + [cut(2, 3, 1), put(2, 3, 1), cut(1, 3, 1), put(1, 3, 1)], 2, 3, 4)


class OwnEdge(Cases):
    def test_it_can_not_come_back(self):
        self.check([(1, 2, 2)], graph("ss", (1, 2, 0), (1, 2, 2)), 2, 1, 2)

    def test_it_can_come_back_by_others(self):
        self.check([(1, 2, 0), (1, 3, 2)], graph("sst", (1, 2, 0), (2, 3, 2), (1, 3, 2)), 2, 1, 3)
        self.check([(1, 3, 2), (2, 3, 2)], graph("sst", (1, 3, 2), (2, 3, 2), (1, 2, 0)), 2, 1, 3)
        self.check([(1, 2, 0), (1, 3, 0), (1, 4, 2)], graph("sttt", *TWO_WAYS, (1, 4, 2)), 2, 1, 4)

    def test_too_many_beside_its_own(self):
        self.check_too_many([*owners(3), put(1, 5, 2)], 2, 1, 5)

    def test_a_thing_has_it(self):
        self.check([(2, 3, 2), (1, 3, 2)], graph("stt", (2, 3, 2), (1, 3, 2), (1, 2, 1)), 2, 2, 3)


class FirstRow(Cases):
    def test_of_one_edge(self):
        row = [(1, 2, 0), (2, 3, 0), (3, 4, 0), (4, 5, 2)]
        for order in itertools.permutations(row):
            self.check([order[0]], graph("stttt", *order), 2, 1, 5)

    def test_of_two_edges(self):
        for order in itertools.permutations(TWO_WAYS):
            upper = [edge for edge in order if edge in ((1, 2, 0), (2, 4, 2))]
            lower = [edge for edge in order if edge in ((1, 3, 0), (3, 4, 2))]
            expected = [edge for edge in order if edge in (upper[0], lower[0])]
            self.check(expected, graph("sttt", *order), 2, 1, 4)

    def test_of_two_edges_that_must_go_together(self):
        rows = [(1, 2, 0), (2, 1, 0), (2, 3, 2), (2, 4, 0), (4, 3, 2)]
        for order in itertools.permutations(rows):
            pairs = ([(1, 2, 0), (2, 1, 0)], [(2, 3, 2), (2, 4, 0)], [(2, 3, 2), (4, 3, 2)])
            places = min(sorted(order.index(edge) for edge in pair) for pair in pairs)
            self.check([order[place] for place in places], graph("sstt", *order), 2, 1, 3)

    def test_the_last_place_decides(self):
        self.check([(1, 5, 2), (1, 2, 0), (3, 5, 2)],
                   graph("stttt", (1, 5, 2), (1, 2, 0), (3, 5, 2), (2, 5, 2), (1, 3, 0)), 2, 1, 5)

    def test_fewer_go_ahead_of_earlier(self):
        self.check([(4, 5, 2)], graph("sttts", (1, 2, 0), (1, 3, 0), (2, 4, 0), (3, 4, 0), (4, 5, 2)), 2, 1, 5)

    def test_after_some_were_cut_and_put_again(self):
        start = graph("sttt", *TWO_WAYS)
        self.check([(1, 3, 0), (2, 4, 2)], [*start, cut(1, 2, 0), put(1, 2, 0)], 2, 1, 4)
        self.check([(2, 4, 2), (3, 4, 2)], [*start, cut(1, 3, 0), put(1, 3, 0), cut(1, 2, 0), put(1, 2, 0)], 2, 1, 4)
        self.check([(1, 2, 0), (3, 4, 2)], [*start, cut(1, 3, 0), put(1, 3, 0)], 2, 1, 4)

    def test_one_put_while_it_is_there_keeps_its_place(self):
        self.check([(1, 2, 0), (1, 3, 0)], [*graph("sttt", *TWO_WAYS), put(1, 2, 0), put(1, 3, 0)], 2, 1, 4)


class Wrong(Cases):
    START = graph("sst", (1, 2, 0), (2, 3, 2))

    def refuse(self, start, *asked):
        for r, x, y in asked:
            with self.subTest(r=r, x=x, y=y):
                self.assertEqual(ask_row(*start, fewest(r, x, y)), [-1])

    def test_one_that_is_not_there(self):
        for other in (0, 4, 10, 11, BIG):
            self.refuse(self.START, (2, other, 3), (2, 1, other), (2, other, other))

    def test_the_same(self):
        self.refuse(self.START, (2, 1, 1), (0, 2, 2), (3, 3, 3))

    def test_a_right_above_three(self):
        self.refuse(self.START, (4, 1, 3), (BIG, 1, 3), (BIG, BIG, BIG), (4, 0, 0), (4, 1, 1))
        self.check([], self.START, 3, 1, 3)
        self.check([(1, 2, 0)], self.START, 0, 1, 2)

    def test_nobody_is_there(self):
        self.refuse([], (0, 0, 0), (0, 1, 2), (BIG, BIG, BIG))

    def test_this_is_told_before_that_there_are_too_many(self):
        start = owners(4)
        self.check_too_many(start, 2, 1, 6)
        self.refuse(start, (4, 1, 6), (BIG, 1, 6), (2, 0, 6), (2, 1, 7), (2, 1, 1), (2, 6, 6), (2, BIG, 6))

    def test_asking_changes_nothing(self):
        for asked in (fewest(2, 1, 3), fewest(3, 1, 3), fewest(2, 1, 4), fewest(4, 1, 3)):
            self.assertEqual(shown(*self.START, asked), shown(*self.START))
        self.assertEqual(shown(*THIRTY, fewest(2, 1, 8)), shown(*THIRTY))
        self.assertEqual(shown(*owners(4), fewest(2, 1, 6)), shown(*owners(4)))

    def test_edges_can_and_fewest_answer_the_same_again(self):
        for start, y in ((graph("sttt", *TWO_WAYS), 4), (owners(3), 5), (owners(4), 6)):
            asked = [edges(), can(2, 1, y), fewest(2, 1, y), edges(), can(2, 1, y), fewest(2, 1, y)]
            found = ask(*start, *asked)[len(start):]
            self.assertEqual(found[:3], found[3:])
            self.assertEqual(found[1], [1])

    def test_it_is_told_of_the_graph_as_it_is_then(self):
        start = graph("sttt", *TWO_WAYS)
        self.assertEqual(ask(*start, fewest(2, 1, 4), cut(1, 2, 0), fewest(2, 1, 4), cut(1, 3, 0), fewest(2, 1, 4),
                             put(1, 4, 2), fewest(2, 1, 4))[len(start):],
                         [[2, 1, 2, 0, 1, 3, 0], [3], [1, 1, 3, 0], [2], [0], [3], [1, 1, 4, 2]])


class Ten(Cases):
    """Nine subjects in a row, each linked to the next by three edges; the last three have right 2 to the tenth."""
    ROW = ([new(1)] + [make(x, 1, [0, 1]) for x in range(1, 9)] + [make(9, 1, [2])]
           + [put(x + 1, x, 0) for x in range(1, 9)] + [put(8, 10, 2), put(7, 10, 2)])

    def expected(self, x):
        if x >= 7:
            return [(9, 10, 2), (8, 10, 2), (7, 10, 2)]
        return [(x, x + 1, 0), (x, x + 1, 1), (x + 1, x, 0)]

    def test_many_in_one_list(self):
        start = [*self.ROW, *[put(x, 10, 3) for x in (1, 2, 3)]]
        self.assertEqual(ask_row(*start, edges())[0], 30)
        asked = list(range(1, 9)) + list(range(1, 9))
        found = ask(*start, *[fewest(2, x, 10) for x in asked])[len(start):]
        self.assertEqual(found, [flat(self.expected(x)) for x in asked])

    def test_many_that_are_too_many_in_one_list(self):
        start = [*self.ROW, put(6, 10, 2), put(5, 10, 2), put(4, 10, 2)]
        self.assertEqual(ask_row(*start, edges())[0], 30)
        asked = [4, 5, 6, 7, 8, 9] * 2
        found = ask(*start, *[fewest(2, x, 10) for x in asked])[len(start):]
        self.assertEqual(found, [[-7]] * len(asked))

    def test_as_the_words_tell(self):
        subjects = list(range(1, 11))
        told = ask_row(*self.ROW, edges())[1:]
        rows = [tuple(told[place:place + 3]) for place in range(0, len(told), 3)]
        for r, x, y in ((2, 1, 10), (2, 7, 10), (0, 3, 1), (1, 9, 2)):
            self.assertEqual(ask_row(*self.ROW, fewest(r, x, y)), by_words.fewest(r, x, y, subjects, rows))


class BesideTheWords(unittest.TestCase):
    def compare(self, kinds, rows, r, x, y):
        """Gives back the number that is answered first."""
        subjects = [one for one, kind in enumerate(kinds, start=1) if kind == "s"]
        found = ask_row(*graph(kinds, *rows), fewest(r, x, y))
        self.assertEqual(found, by_words.fewest(r, x, y, subjects, rows), (kinds, rows, r, x, y))
        return found[0]

    def next_edge(self, possible):
        self.seed = (self.seed * 1103515245 + 12345) % 2 ** 31
        return possible[(self.seed >> 8) % len(possible)]

    def test_many_graphs(self):
        self.seed = 3
        counts = {}
        for turn in range(160):
            kinds = ("stst", "sssss", "sttst", "ssssst", "tsst", "ssssts")[turn % 6]
            last = len(kinds)
            links = [(x, y, r) for x, y in itertools.permutations(range(1, last), 2) for r in (0, 1)]
            owned = [(x, last, r) for x in range(1, last) for r in (2, 2, 2, 0, 1)]
            rows = {}
            while len(rows) < 4 + turn % 12:
                rows[self.next_edge(links)] = True
                rows[self.next_edge(owned)] = True
            for r in range(3):
                count = self.compare(kinds, list(rows), r, 1 + turn % (last - 1), last)
                counts[count] = counts.get(count, 0) + 1
        # With too few of a kind the comparison would show too little.
        self.assertGreater(min(counts.get(count, 0) for count in (0, 1, 2, 3, -7)), 5, counts)


if __name__ == "__main__":
    unittest.main()

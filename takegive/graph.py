"""The calls on one graph of subjects, things and edges, and the reading of a list of calls."""

from takegive.cutting import fewest_edges
from takegive.reach import TO_GIVE, TO_TAKE, can_be, can_steal, near_ones

MOST_ONES = 10
MOST_EDGES = 30
HIGHEST_RIGHT = 3

NOT_FIT = -1
NO_EDGE = -3
FULL = -5
MAY_NOT = -6
TOO_MANY = -7

NEW = 0
PUT = 1
CUT = 2
TAKE = 3
GIVE = 4
MAKE = 5
CAN = 6
STEAL = 7
WHO = 8
WHAT = 9
NEAR = 10
FEWEST = 11

# How many whole numbers a call has behind its own number, ahead of its rows; a call's place is its number.
SIZES = (1, 3, 3, 4, 4, 2, 3, 3, 2, 1, 1, 3, 0)


class Graph:
    """Who is there, and the edges in the order in which they came."""

    def __init__(self):
        # 1 for a subject and 0 for a thing: the one with number 1 stands first.
        self.kinds = []
        self.edges = []

    def is_there(self, x):
        return 1 <= x <= len(self.kinds)

    def is_subject(self, x):
        return self.is_there(x) and self.kinds[x - 1] == 1

    def ones(self):
        """The numbers of all that are there, rising."""
        return list(range(1, len(self.kinds) + 1))

    def subjects(self):
        return [number for number, kind in enumerate(self.kinds, start=1) if kind == 1]

    def has(self, x, y, r):
        return (x, y, r) in self.edges

    def add_one(self, s):
        self.kinds.append(s)
        return len(self.kinds)

    def add_edge(self, x, y, r):
        """How many edges there are then, or a refusal; an edge that is there keeps its place and needs no room."""
        if not self.has(x, y, r):
            if len(self.edges) == MOST_EDGES:
                return FULL
            self.edges.append((x, y, r))
        return len(self.edges)


def fits(graph, x, y, r):
    """Whether an edge x, y, r could be there at all."""
    return graph.is_there(x) and graph.is_there(y) and x != y and r <= HIGHEST_RIGHT


def all_different(x, y, z):
    return x != y and x != z and y != z


def rights_fit(rights):
    """Whether the rights rise and none is too high."""
    lowest = 0
    for right in rights:
        if right < lowest or right > HIGHEST_RIGHT:
            return False
        lowest = right + 1
    return True


def new(graph, s):
    if s > 1:
        return NOT_FIT
    if len(graph.kinds) == MOST_ONES:
        return FULL
    return graph.add_one(s)


def put(graph, x, y, r):
    if not fits(graph, x, y, r):
        return NOT_FIT
    return graph.add_edge(x, y, r)


def cut(graph, x, y, r):
    if not fits(graph, x, y, r):
        return NOT_FIT
    if not graph.has(x, y, r):
        return NO_EDGE
    graph.edges.remove((x, y, r))
    return len(graph.edges)


def take(graph, x, y, z, r):
    if r > HIGHEST_RIGHT:
        return NOT_FIT
    # Edges run only between those that are there, so y and z are there if the edges are.
    allowed = graph.is_subject(x) and graph.has(x, y, TO_TAKE) and graph.has(y, z, r)
    if not allowed or not all_different(x, y, z):
        return MAY_NOT
    return graph.add_edge(x, z, r)


def give(graph, x, y, z, r):
    if r > HIGHEST_RIGHT:
        return NOT_FIT
    allowed = graph.is_subject(x) and graph.has(x, y, TO_GIVE) and graph.has(x, z, r)
    if not allowed or not all_different(x, y, z):
        return MAY_NOT
    return graph.add_edge(y, z, r)


def make(graph, x, s, rights):
    if s > 1 or not rights_fit(rights):
        return NOT_FIT
    if not graph.is_subject(x):
        return MAY_NOT
    if len(graph.kinds) == MOST_ONES or len(graph.edges) + len(rights) > MOST_EDGES:
        return FULL
    made = graph.add_one(s)
    for right in rights:
        graph.add_edge(x, made, right)
    return made


def can(graph, r, x, y):
    if not fits(graph, x, y, r):
        return NOT_FIT
    return 1 if can_be(r, x, y, graph.subjects(), graph.edges) else 0


def steal(graph, r, x, y):
    if not fits(graph, x, y, r):
        return NOT_FIT
    return 1 if can_steal(r, x, y, graph.subjects(), graph.edges) else 0


def counted(rows):
    """How many rows, then their numbers one behind another."""
    numbers = [len(rows)]
    for row in rows:
        numbers.extend(row)
    return numbers


def who(graph, r, y):
    if not graph.is_there(y) or r > HIGHEST_RIGHT:
        return [NOT_FIT]
    subjects = graph.subjects()
    found = [x for x in graph.ones() if x != y and can_be(r, x, y, subjects, graph.edges)]
    return [len(found)] + found


def what(graph, x):
    if not graph.is_there(x):
        return [NOT_FIT]
    subjects = graph.subjects()
    found = []
    for y in graph.ones():
        for r in range(HIGHEST_RIGHT + 1):
            if y != x and can_be(r, x, y, subjects, graph.edges):
                found.append((y, r))
    return counted(found)


def near(graph, x):
    if not graph.is_subject(x):
        return [NOT_FIT]
    found = near_ones(x, graph.subjects(), graph.edges)
    return [len(found)] + found


def fewest(graph, r, x, y):
    if not fits(graph, x, y, r):
        return [NOT_FIT]
    found = fewest_edges(r, x, y, graph.subjects(), graph.edges)
    return [TOO_MANY] if found is None else counted(found)


def call_end(calls, start):
    """The place behind the call that begins at start."""
    end = start + 1 + SIZES[calls[start]]
    if calls[start] == MAKE:
        end += 1 + calls[end]
    return end


def answer_change(graph, call):
    """The number that is answered to a call that may change the graph."""
    number = call[0]
    if number == NEW:
        return new(graph, call[1])
    if number == PUT:
        return put(graph, call[1], call[2], call[3])
    if number == CUT:
        return cut(graph, call[1], call[2], call[3])
    if number == TAKE:
        return take(graph, call[1], call[2], call[3], call[4])
    if number == GIVE:
        return give(graph, call[1], call[2], call[3], call[4])
    return make(graph, call[1], call[2], call[4:])


def answer_question(graph, call):
    """The numbers that are answered to a call that only asks."""
    number = call[0]
    if number == CAN:
        return [can(graph, call[1], call[2], call[3])]
    if number == STEAL:
        return [steal(graph, call[1], call[2], call[3])]
    if number == WHO:
        return who(graph, call[1], call[2])
    if number == WHAT:
        return what(graph, call[1])
    if number == NEAR:
        return near(graph, call[1])
    if number == FEWEST:
        return fewest(graph, call[1], call[2], call[3])
    # SIZES has room for no other number than that of edges.
    return counted(graph.edges)


def answer(graph, call):
    """What is answered to one call, which is its number and all that belongs to it."""
    return [answer_change(graph, call)] if call[0] <= MAKE else answer_question(graph, call)


def answers(calls):
    """Of each call in the list how many numbers are answered, then these."""
    graph = Graph()
    given = []
    start = 0
    while start < len(calls):
        end = call_end(calls, start)
        found = answer(graph, calls[start:end])
        given.append(len(found))
        given.extend(found)
        start = end
    return given

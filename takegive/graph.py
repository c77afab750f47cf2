"""The calls on one graph of subjects, things and edges, and the reading of a list of calls."""

from takegive.reach import TO_GIVE, TO_TAKE, can_be

MOST_ONES = 10
MOST_EDGES = 30
HIGHEST_RIGHT = 3

NOT_FIT = -1
NO_EDGE = -3
FULL = -5
MAY_NOT = -6

NEW = 0
PUT = 1
CUT = 2
TAKE = 3
GIVE = 4
MAKE = 5

# How many whole numbers a call has behind its own number, ahead of its rows; a call's place is its number.
SIZES = (1, 3, 3, 4, 4, 2, 3)


class Graph:
    """Who is there, and the edges in the order in which they came."""

    def __init__(self):
        # 1 for a subject and 0 for a thing: the one with number 1 stands first.
        self.kinds = []
        self.edges = []

    def is_there(self, x):
        return 1 <= x <= len(self.kinds)

    def is_subject(self, x):
        return self.is_there(x) and self.kinds[x - 1] == 1

    def subjects(self):
        return [number for number, kind in enumerate(self.kinds, start=1) if kind == 1]

    def has(self, x, y, r):
        return (x, y, r) in self.edges

    def add_one(self, s):
        self.kinds.append(s)
        return len(self.kinds)

    def add_edge(self, x, y, r):
        """How many edges there are then, or a refusal; an edge that is there keeps its place and needs no room."""
        if not self.has(x, y, r):
            if len(self.edges) == MOST_EDGES:
                return FULL
            self.edges.append((x, y, r))
        return len(self.edges)


def fits(graph, x, y, r):
    """Whether an edge x, y, r could be there at all."""
    return graph.is_there(x) and graph.is_there(y) and x != y and r <= HIGHEST_RIGHT


def all_different(x, y, z):
    return x != y and x != z and y != z


def rights_fit(rights):
    """Whether the rights rise and none is too high."""
    lowest = 0
    for right in rights:
        if right < lowest or right > HIGHEST_RIGHT:
            return False
        lowest = right + 1
    return True


def new(graph, s):
    if s > 1:
        return NOT_FIT
    if len(graph.kinds) == MOST_ONES:
        return FULL
    return graph.add_one(s)


def put(graph, x, y, r):
    if not fits(graph, x, y, r):
        return NOT_FIT
    return graph.add_edge(x, y, r)


def cut(graph, x, y, r):
    if not fits(graph, x, y, r):
        return NOT_FIT
    if not graph.has(x, y, r):
        return NO_EDGE
    graph.edges.remove((x, y, r))
    return len(graph.edges)


def take(graph, x, y, z, r):
    if r > HIGHEST_RIGHT:
        return NOT_FIT
    # Edges run only between those that are there, so y and z are there if the edges are.
    allowed = graph.is_subject(x) and graph.has(x, y, TO_TAKE) and graph.has(y, z, r)
    if not allowed or not all_different(x, y, z):
        return MAY_NOT
    return graph.add_edge(x, z, r)


def give(graph, x, y, z, r):
    if r > HIGHEST_RIGHT:
        return NOT_FIT
    allowed = graph.is_subject(x) and graph.has(x, y, TO_GIVE) and graph.has(x, z, r)
    if not allowed or not all_different(x, y, z):
        return MAY_NOT
    return graph.add_edge(y, z, r)


def make(graph, x, s, rights):
    if s > 1 or not rights_fit(rights):
        return NOT_FIT
    if not graph.is_subject(x):
        return MAY_NOT
    if len(graph.kinds) == MOST_ONES or len(graph.edges) + len(rights) > MOST_EDGES:
        return FULL
    made = graph.add_one(s)
    for right in rights:
        graph.add_edge(x, made, right)
    return made


def can(graph, r, x, y):
    if not fits(graph, x, y, r):
        return NOT_FIT
    return 1 if can_be(r, x, y, graph.subjects(), graph.edges) else 0


def call_end(calls, start):
    """The place behind the call that begins at start."""
    end = start + 1 + SIZES[calls[start]]
    if calls[start] == MAKE:
        end += 1 + calls[end]
    return end


def answer(graph, call):
    """What is answered to one call, which is its number and all that belongs to it."""
    number = call[0]
    if number == NEW:
        return [new(graph, call[1])]
    if number == PUT:
        return [put(graph, call[1], call[2], call[3])]
    if number == CUT:
        return [cut(graph, call[1], call[2], call[3])]
    if number == TAKE:
        return [take(graph, call[1], call[2], call[3], call[4])]
    if number == GIVE:
        return [give(graph, call[1], call[2], call[3], call[4])]
    if number == MAKE:
        return [make(graph, call[1], call[2], call[4:])]
    # SIZES has room for no other number than that of can.
    return [can(graph, call[1], call[2], call[3])]


def answers(calls):
    """Of each call in the list how many numbers are answered, then these."""
    graph = Graph()
    given = []
    start = 0
    while start < len(calls):
        end = call_end(calls, start)
        found = answer(graph, calls[start:end])
        given.append(len(found))
        given.extend(found)
        start = end
    return given

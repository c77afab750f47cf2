"""Writes calls as lists of numbers, asks them, and takes the answers apart."""

from takegive.graph import answers

BIG = 4294967295


def new(s):
    return [0, s]


def put(x, y, r):
    return [1, x, y, r]


def cut(x, y, r):
    return [2, x, y, r]


def take(x, y, z, r):
    return [3, x, y, z, r]


def give(x, y, z, r):
    return [4, x, y, z, r]


def make(x, s, rights):
    return [5, x, s, len(rights)] + rights


def can(r, x, y):
    return [6, r, x, y]


def steal(r, x, y):
    return [7, r, x, y]


def who(r, y):
    return [8, r, y]


def what(x):
    return [9, x]


def near(x):
    return [10, x]


def fewest(r, x, y):
    return [11, r, x, y]


def edges():
    return [12]


def graph(kinds, *rows):
    """The calls that bring about this graph: a letter for each one, s for a subject and t for a thing; then edges."""
    return [new(1 if kind == "s" else 0) for kind in kinds] + [put(*row) for row in rows]


def split_answers(given):
    """Each answer as a list of its own, told apart by how many numbers it is said to have."""
    found = []
    start = 0
    while start < len(given):
        end = start + 1 + given[start]
        if end > len(given):
            raise ValueError("an answer has fewer numbers than told")
        found.append(given[start + 1:end])
        start = end
    return found


def ask(*calls):
    """The answers to these calls, which are about one new graph."""
    if not 1 <= len(calls) <= 40:
        raise ValueError("a list has 1 to 40 calls")
    return split_answers(answers(sum(calls, [])))


def ask_all(*calls):
    """As ask, where each answer is one number alone."""
    return [number for number, in ask(*calls)]


def ask_last(*calls):
    """The number that is answered to the last of these calls."""
    return ask_all(*calls)[-1]


def ask_row(*calls):
    """All that is answered to the last of these calls."""
    return ask(*calls)[-1]


def flat(rows):
    """How many rows, then their numbers: the way in which rows are answered."""
    return [len(rows)] + [number for row in rows for number in row]


def shown(*calls):
    """The edges in their order, who is there and who is a subject after these calls, told by calls that ask."""
    told = [ask_row(*calls, edges())]
    for x in range(1, 11):
        told.append(ask_row(*calls, near(x)))
        told.append(ask_row(*calls, what(x)))
    return told


def state(*calls):
    """All that later calls show of how the graph is after these calls."""
    shown = [ask_last(*calls, new(0))]
    for x in range(1, 11):
        shown.append(ask_last(*calls, make(x, 1, [])))
        for y in range(1, 11):
            for r in range(4):
                shown.append(ask_last(*calls, cut(x, y, r)))
    return shown


# Nine are there and thirty edges, all of them the first one's: to 2 up to 8 all four rights, to 9 rights 0 and 1.
THIRTY = [new(1)] + [make(1, 1, [0, 1, 2, 3]) for turn in range(7)] + [make(1, 0, [0, 1])]

"""Finds out what can be, what can be stolen and what has to be cut, sentence by sentence as the document tells it.

It is slow and stands beside the program, which walks over links instead.
"""

import itertools


def all_reached(start, following):
    """start, those that follow it, those that follow these, and so on."""
    reached = [start]
    for one in reached:
        reached.extend(other for other in following(one) if other not in reached)
    return reached


def takes_up_to(x, edges):
    return all_reached(x, lambda one: [y for a, y, r in edges if a == one and r == 0])


def gives_across(some, others, edges):
    return any(r == 1 and (x in some and y in others or x in others and y in some) for x, y, r in edges)


def hand_on(one, other, edges):
    """Whether two different subjects hand on to each other."""
    ups, other_ups = takes_up_to(one, edges), takes_up_to(other, edges)
    return other in ups or one in other_ups or gives_across(ups, other_ups, edges)


def near_ones(x, subjects, edges):
    return all_reached(x, lambda one: [other for other in subjects if other != one and hand_on(one, other, edges)])


def holders(y, r, edges):
    return [holder for holder, held, right in edges if held == y and right == r]


def bringers(x, subjects, edges):
    givers = holders(x, 1, edges)
    return [subject for subject in subjects if subject == x or set(givers) & set(takes_up_to(subject, edges))]


def can_be(r, x, y, subjects, edges):
    if (x, y, r) in edges:
        return True
    near = {one for bringer in bringers(x, subjects, edges) for one in near_ones(bringer, subjects, edges)}
    owners = holders(y, r, edges)
    return any(set(owners) & set(takes_up_to(one, edges)) for one in near)


def can_steal(r, x, y, subjects, edges):
    if (x, y, r) in edges:
        return False
    helpers = bringers(x, subjects, edges)
    return any(can_be(0, u, s, subjects, edges) for s in holders(y, r, edges) for u in helpers)


def fewest(r, x, y, subjects, edges):
    """The answer to fewest: rows are tried by their length, and rows of one length in the order of the edges."""
    for count in range(4):
        for row in itertools.combinations(edges, count):
            if not can_be(r, x, y, subjects, [edge for edge in edges if edge not in row]):
                return [count] + [number for edge in row for number in edge]
    return [-7]

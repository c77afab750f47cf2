"""Finds what can come to be by doing the steps themselves, beside the way that the program goes."""


def with_made_ones(subjects, edges, how_many):
    """The graph after each subject has made so many subjects with all rights to them."""
    actors = list(subjects)
    more = set(edges)
    for subject in subjects:
        for turn in range(how_many):
            made = ("made", subject, turn)
            actors.append(made)
            more.update((subject, made, r) for r in range(4))
    return actors, more


def next_steps(actors, edges, not_given):
    """Every edge that one taking or giving brings about; of not_given, no one gives what it is an edge to."""
    brought = set()
    for x, y, how in edges:
        if x in actors and how == 0:
            brought.update((x, z, r) for a, z, r in edges if a == y and z != x)
        if x in actors and how == 1:
            brought.update((y, z, r) for a, z, r in edges if a == x and z != y and (a, z, r) not in not_given)
    return brought


def edges_that_can_be(subjects, edges, how_many=2, not_given=()):
    """More rights and more subjects never stand in a step's way, so all of them are made and nothing is dropped."""
    actors, reached = with_made_ones(subjects, edges, how_many)
    while True:
        brought = next_steps(actors, reached, not_given) - reached
        if not brought:
            return reached
        reached |= brought


def thieves(r, y, subjects, edges):
    """Those that come to have r to y by steps in which no one that has it at first gives it."""
    owned = [edge for edge in edges if edge[1:] == (y, r)]
    reached = edges_that_can_be(subjects, edges, 2, owned)
    return [x for x, held, right in reached if (held, right) == (y, r) and (x, y, r) not in edges]

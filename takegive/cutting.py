"""Which edges have to be cut so that a right can't come to one any more."""

from takegive.reach import GOAL, START, all_links, walk

MOST_CUT = 3


def first_row(count, start, goal, links, gone, edges):
    """The first row of so many edges without which there is no way, by their places among edges, or None.

    gone are those that are cut already; fewer than count are not enough beside them, so all rows are as long.
    """
    needed = walk(start, links, gone).get(goal)
    if needed is None:
        return []
    if count == 0:
        return None
    first = None
    # Each row has an edge of this way, for else the way would be left. Of the rows that have a certain edge the
    # first is that edge beside the first row of the others, as one more edge in both turns no two rows round.
    for edge in needed:
        others = first_row(count - 1, start, goal, links, gone + [edge], edges)
        if others is not None:
            row = sorted(others + [edges.index(edge)])
            if first is None or row < first:
                first = row
    return first


def fewest_edges(r, x, y, subjects, edges):
    """The fewest edges without which it can't be that x comes to have r to y, or None if they are more than three."""
    links = all_links(r, x, y, subjects, edges)
    for count in range(MOST_CUT + 1):
        row = first_row(count, (x, START), (y, GOAL), links, [], edges)
        if row is not None:
            return [edges[place] for place in row]
    return None

"""What can come of the edges: who can come to have what, who can steal it, who is near whom.

That it can be that x comes to have r to y is found out by walking from x, over links from one place to
another, until y is arrived at. A place is one of those that are there, and how it stands to the walk:

- (v, UP): some near one of a bringer of x takes up to v;
- (v, DOWN): every subject that takes up to v is a near one of a bringer of x;
- (x, START) and (y, GOAL): where the walk begins, and where it has arrived.

Each link needs one edge or none, so a walk also shows which edges are enough to let it be.
"""

TO_TAKE = 0
TO_GIVE = 1

UP = 0
DOWN = 1
START = 2
GOAL = 3


def holders(y, r, edges):
    """Those that have the right r to y."""
    return [holder for holder, held, right in edges if held == y and right == r]


def add_link(links, before, behind, edge):
    links.setdefault(before, []).append((behind, edge))


def near_links(subjects, edges):
    """The links that lead from near one to near one, whoever the right is for and whatever it is to."""
    links = {}
    for x, y, r in edges:
        if r == TO_TAKE:
            add_link(links, (x, UP), (y, UP), (x, y, r))
            add_link(links, (y, DOWN), (x, DOWN), (x, y, r))
        if r == TO_GIVE:
            add_link(links, (x, UP), (y, DOWN), (x, y, r))
            add_link(links, (y, UP), (x, DOWN), (x, y, r))
    # A subject takes up to itself, so one that is arrived at in either way is a near one, and both hold of it.
    for subject in subjects:
        add_link(links, (subject, UP), (subject, DOWN), None)
        add_link(links, (subject, DOWN), (subject, UP), None)
    return links


def all_links(r, x, y, subjects, edges):
    """The links by which (y, GOAL) is arrived at from (x, START) just if it can be that x comes to have r to y."""
    links = near_links(subjects, edges)
    if x in subjects:
        add_link(links, (x, START), (x, UP), None)
    for giver in holders(x, TO_GIVE, edges):
        add_link(links, (x, START), (giver, DOWN), (giver, x, TO_GIVE))
    for owner in holders(y, r, edges):
        add_link(links, (owner, UP), (y, GOAL), (owner, y, r))
        # Where x itself is the owner nobody needs to bring it; no walk begins at another owner.
        add_link(links, (owner, START), (y, GOAL), (owner, y, r))
    return links


def walk(start, links, gone):
    """A dict of the places arrived at, each with the edges on one way there; edges that are gone are not used."""
    ways = {start: []}
    waiting = [start]
    turn = 0
    while turn < len(waiting):
        before = waiting[turn]
        for behind, edge in links.get(before, []):
            if behind not in ways and edge not in gone:
                ways[behind] = ways[before] if edge is None else ways[before] + [edge]
                waiting.append(behind)
        turn += 1
    return ways


def can_be(r, x, y, subjects, edges):
    """Whether it can be that x comes to have r to y; x and y may be the same here."""
    links = all_links(r, x, y, subjects, edges)
    return (y, GOAL) in walk((x, START), links, [])


def near_ones(x, subjects, edges):
    """The near ones of the subject x, in the order of subjects."""
    ways = walk((x, UP), near_links(subjects, edges), [])
    return [subject for subject in subjects if (subject, UP) in ways]


def takers(ones, edges):
    """These ones, and all that take up to one of them."""
    found = list(ones)
    turn = 0
    while turn < len(found):
        found.extend([taker for taker in holders(found[turn], TO_TAKE, edges) if taker not in found])
        turn += 1
    return found


def bringers(x, subjects, edges):
    """The subjects that can bring x something; x is one if it is a subject."""
    givers = takers(holders(x, TO_GIVE, edges), edges)
    return [subject for subject in subjects if subject == x or subject in givers]


def can_steal(r, x, y, subjects, edges):
    """Whether x can steal r to y."""
    if (x, y, r) in edges:
        return False
    helpers = bringers(x, subjects, edges)
    for owner in holders(y, r, edges):
        if any([can_be(TO_TAKE, helper, owner, subjects, edges) for helper in helpers]):
            return True
    return False

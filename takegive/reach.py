"""What can come of the edges: who takes up to whom, who is near whom, who comes to have what.

Each function here is given the edges, and the subjects or what they take up to, so that it
can be asked of other edges than those that a graph has just then.
"""

TO_TAKE = 0
TO_GIVE = 1


def all_reached(start, following):
    """start, those that follow it in the dict of lists, those that follow these, and so on."""
    reached = [start]
    place = 0
    while place < len(reached):
        for other in following.get(reached[place], []):
            if other not in reached:
                reached.append(other)
        place += 1
    return reached


def take_ups(subjects, edges):
    """For each subject the list of those that it takes up to."""
    taken_from = {}
    for x, y, r in edges:
        if r == TO_TAKE:
            taken_from.setdefault(x, []).append(y)
    ups = {}
    for subject in subjects:
        ups[subject] = all_reached(subject, taken_from)
    return ups


def holders(y, r, edges):
    """Those that have the right r to y."""
    return [holder for holder, held, right in edges if held == y and right == r]


def share_one(some, others):
    return any([one in others for one in some])


def gives_across(givers, receivers, edges):
    return any([r == TO_GIVE and x in givers and y in receivers for x, y, r in edges])


def hand_on(one, other, ups, edges):
    """Whether two different subjects hand on to each other."""
    if other in ups[one] or one in ups[other]:
        return True
    return gives_across(ups[one], ups[other], edges) or gives_across(ups[other], ups[one], edges)


def handing_on(ups, edges):
    """For each subject the list of those with which it hands on."""
    partners = {}
    for one in ups:
        partners[one] = [other for other in ups if other != one and hand_on(one, other, ups, edges)]
    return partners


def bringers(x, ups, edges):
    """The subjects that can bring x something; x is one if it is a subject, as only subjects are in ups."""
    givers = holders(x, TO_GIVE, edges)
    return [subject for subject in ups if subject == x or share_one(givers, ups[subject])]


def can_be(r, x, y, subjects, edges):
    """Whether it can be that x comes to have r to y; x and y may be the same here."""
    if (x, y, r) in edges:
        return True
    ups = take_ups(subjects, edges)
    partners = handing_on(ups, edges)
    owners = holders(y, r, edges)
    for bringer in bringers(x, ups, edges):
        for helper in all_reached(bringer, partners):
            if share_one(owners, ups[helper]):
                return True
    return False

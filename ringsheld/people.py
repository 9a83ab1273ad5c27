"""Friends and foes: people, the sets of their friends, and the groups that these make.

A set of people is a number: person i counts 2^i.
"""

REFUSED = -22
MOST_PEOPLE = 5


def has_person(s, i):
    """Whether person i is in the set s."""
    return (s >> i) & 1 == 1


def friends_are_told(n, friends):
    """Whether n and friends are as the document tells them."""
    # n may be as great as 2^32 - 1, so it is looked at before anything is shifted by it.
    if n < 1 or n > MOST_PEOPLE or len(friends) != n:
        return False
    for i in range(n):
        if friends[i] >> n != 0 or has_person(friends[i], i):
            return False
    return True


def with_friends(friends, s):
    """The set s and all friends of those in it."""
    wider = s
    for i in range(len(friends)):
        if has_person(s, i):
            wider = wider | friends[i]
    return wider


def reached(friends, i):
    """Person i and all to whom a way of friends leads from there."""
    found = 1 << i
    # A way that meets nobody twice has fewer steps than there are people.
    for step in range(1, len(friends)):
        found = with_friends(friends, found)
    return found


def first_of_ring(reach, i):
    """The least person of the ring of friends that person i is in."""
    for j in range(i):
        if has_person(reach[i], j) and has_person(reach[j], i):
            return j
    return i


def rings(n, friends):
    """How many rings of friends there are, then each person's group."""
    if not friends_are_told(n, friends):
        return [REFUSED]
    reach = [reached(friends, i) for i in range(n)]
    groups = []
    found = 0
    for i in range(n):
        first = first_of_ring(reach, i)
        if first == i:
            groups.append(found)
            found = found + 1
        else:
            groups.append(groups[first])
    return [found] + groups

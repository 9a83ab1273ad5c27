"""Friends and foes: people, the sets of their friends, and the groups that these make.

A set of people is a number: person i counts 2^i.
"""

REFUSED = -22
MOST_PEOPLE = 5


def has_person(s, i):
    """Whether person i is in the set s."""
    return (s >> i) & 1 == 1


def friends_are_told(n, friends):
    """Whether n and friends are as the document tells them."""
    # n may be as great as 2^32 - 1, so it is looked at before anything is shifted by it.
    if n < 1 or n > MOST_PEOPLE or len(friends) != n:
        return False
    for i in range(n):
        if friends[i] >> n != 0 or has_person(friends[i], i):
            return False
    return True


def with_friends(friends, s):
    """The set s and all friends of those in it."""
    wider = s
    for i in range(len(friends)):
        if has_person(s, i):
            wider = wider | friends[i]
    return wider


def reached(friends, i):
    """Person i and all to whom a way of friends leads from there."""
    found = 1 << i
    # A way that meets nobody twice has fewer steps than there are people.
    for step in range(1, len(friends)):
        found = with_friends(friends, found)
    return found


def first_of_ring(reach, i):
    """The least person of the ring of friends that person i is in."""
    for j in range(i):
        if has_person(reach[i], j) and has_person(reach[j], i):
            return j
    return i


def rings(n, friends):
    """How many rings of friends there are, then each person's group."""
    if not friends_are_told(n, friends):
        return [REFUSED]
    reach = [reached(friends, i) for i in range(n)]
    groups = []
    found = 0
    for i in range(n):
        first = first_of_ring(reach, i)
        if first == i:
            groups.append(found)
            found = found + 1
        else:
            groups.append(groups[first])
    return [found] + groups


def size(s):
    """How many people are in the set s."""
    left = s
    many = 0
    while left != 0:
        many = many + (left & 1)
        left = left >> 1
    return many


def is_close(friends, s):
    """Whether each of the set s has each other one of it for a friend."""
    for i in range(len(friends)):
        # Nobody is their own friend, so person i is put beside the friends of i.
        if has_person(s, i) and s & (friends[i] | (1 << i)) != s:
            return False
    return True


def greatest_close(friends, s):
    """The greatest close set within the set s; of as many the lesser number."""
    best = 0
    # The sets rise, so one that is only as great as the best so far is passed over.
    for t in range(s + 1):
        if t & s == t and size(t) > size(best) and is_close(friends, t):
            best = t
    return best


def peeled(n, friends):
    """How many sets are peeled, then these, in order."""
    if not friends_are_told(n, friends):
        return [REFUSED]
    left = (1 << n) - 1
    sets = []
    # One person alone is close, so each turn takes somebody off.
    while left != 0:
        best = greatest_close(friends, left)
        sets.append(best)
        left = left ^ best
    return [len(sets)] + sets

"""Friends and foes: people, the sets of their friends, and the groups that these make.

A set of people is a number: person i counts 2^i.
"""

REFUSED = -22
MOST_PEOPLE = 5


def has_person(s, i):
    """Whether person i is in the set s."""
    return (s >> i) & 1 == 1


def friends_are_told(n, friends):
    """Whether n and friends are as the document tells them."""
    # n may be as great as 2^32 - 1, so it is looked at before anything is shifted by it.
    if n < 1 or n > MOST_PEOPLE or len(friends) != n:
        return False
    for i in range(n):
        if friends[i] >> n != 0 or has_person(friends[i], i):
            return False
    return True


def with_friends(friends, s):
    """The set s and all friends of those in it."""
    wider = s
    for i in range(len(friends)):
        if has_person(s, i):
            wider = wider | friends[i]
    return wider


def reached(friends, i):
    """Person i and all to whom a way of friends leads from there."""
    found = 1 << i
    # A way that meets nobody twice has fewer steps than there are people.
    for step in range(1, len(friends)):
        found = with_friends(friends, found)
    return found


def first_of_ring(reach, i):
    """The least person of the ring of friends that person i is in."""
    for j in range(i):
        if has_person(reach[i], j) and has_person(reach[j], i):
            return j
    return i


def rings(n, friends):
    """How many rings of friends there are, then each person's group."""
    if not friends_are_told(n, friends):
        return [REFUSED]
    reach = [reached(friends, i) for i in range(n)]
    groups = []
    found = 0
    for i in range(n):
        first = first_of_ring(reach, i)
        if first == i:
            groups.append(found)
            found = found + 1
        else:
            groups.append(groups[first])
    return [found] + groups


def size(s):
    """How many people are in the set s."""
    left = s
    many = 0
    while left != 0:
        many = many + (left & 1)
        left = left >> 1
    return many


def is_close(friends, s):
    """Whether each of the set s has each other one of it for a friend."""
    for i in range(len(friends)):
        # Nobody is their own friend, so person i is put beside the friends of i.
        if has_person(s, i) and s & (friends[i] | (1 << i)) != s:
            return False
    return True


def greatest_close(friends, s):
    """The greatest close set within the set s; of as many the lesser number."""
    best = 0
    # The sets rise, so one that is only as great as the best so far is passed over.
    for t in range(s + 1):
        if t & s == t and size(t) > size(best) and is_close(friends, t):
            best = t
    return best


def peeled(n, friends):
    """How many sets are peeled, then these, in order."""
    if not friends_are_told(n, friends):
        return [REFUSED]
    left = (1 << n) - 1
    sets = []
    # One person alone is close, so each turn takes somebody off.
    while left != 0:
        best = greatest_close(friends, left)
        sets.append(best)
        left = left ^ best
    return [len(sets)] + sets


def groups_are_told(n, groups):
    """Whether groups tells a number below n for each of n people."""
    if len(groups) != n:
        return False
    for number in groups:
        if number >= n:
            return False
    return True


def how_many_groups(groups):
    """How many groups there are."""
    many = 0
    # Numbers may be left out, so those that come for the first time are counted.
    for i in range(len(groups)):
        if groups[i] not in groups[:i]:
            many = many + 1
    return many


def group_of(groups, i):
    """The set of all who are in the group of person i."""
    s = 0
    for j in range(len(groups)):
        if groups[j] == groups[i]:
            s = s | (1 << j)
    return s


def has_in(k, friends, s, i):
    """What person i, who is in the set s, has in a group of just these."""
    n = len(friends)
    near = size(s & friends[i])
    # Person i is worth nothing to i: neither a friend nor a foe.
    far = size(s) - near - 1
    if k == 0:
        return near * n - far
    return near - far * n


def what_each_has(k, friends, groups):
    """What each person has in their group, person by person."""
    return [has_in(k, friends, group_of(groups, i), i) for i in range(len(friends))]


def worths(n, k, friends, groups):
    """How many groups there are, then what each person has; friends first (k 0) or foes first (k 1)."""
    if not friends_are_told(n, friends) or k > 1 or not groups_are_told(n, groups):
        return [REFUSED]
    return [how_many_groups(groups)] + what_each_has(k, friends, groups)


def would_leave(k, w, friends, had, s):
    """Whether the set s would leave (w 0), would leave weakly (w 1), where each person has what had tells."""
    one_has_more = False
    for i in range(len(friends)):
        if has_person(s, i):
            has = has_in(k, friends, s, i)
            if has < had[i] or (w == 0 and has == had[i]):
                return False
            if has > had[i]:
                one_has_more = True
    return one_has_more


def leavers(n, k, w, friends, groups):
    """How many sets would leave (w 0), would leave weakly (w 1), then these, rising."""
    if not friends_are_told(n, friends) or k > 1 or not groups_are_told(n, groups) or w > 1:
        return [REFUSED]
    had = what_each_has(k, friends, groups)
    # From 1 on: a set that would leave has one person or more.
    sets = [s for s in range(1, 1 << n) if would_leave(k, w, friends, had, s)]
    return [len(sets)] + sets


def all_ways(n):
    """All ways of n people to be in groups, in order, each numbered as its groups first come."""
    ways = [[]]
    for i in range(n):
        wider = []
        for way in ways:
            # Person i joins a group that is there, or the one number that comes next begins another.
            for number in range(how_many_groups(way) + 1):
                wider.append(way + [number])
        ways = wider
    return ways


def groups_hold(k, w, friends, groups):
    """Whether no set would leave the groups (w 0), would leave them even weakly (w 1)."""
    had = what_each_has(k, friends, groups)
    for s in range(1, 1 << len(friends)):
        if would_leave(k, w, friends, had, s):
            return False
    return True


def core(n, k, w, friends):
    """How many of all ways to be in groups hold (w 0), hold weakly leaving (w 1), then the first one's groups."""
    if not friends_are_told(n, friends) or k > 1 or w > 1:
        return [REFUSED]
    holding = [groups for groups in all_ways(n) if groups_hold(k, w, friends, groups)]
    # Foes first there may be no way that holds weakly leaving, and so no first one to tell.
    if len(holding) == 0:
        return [0]
    return [len(holding)] + holding[0]


def close(n, s, friends):
    """1 if the set s is close, else 0, then the greatest close set within s (of as many the lesser number)."""
    if not friends_are_told(n, friends) or s >> n != 0:
        return [REFUSED]
    told = 1 if is_close(friends, s) else 0
    return [told, greatest_close(friends, s)]

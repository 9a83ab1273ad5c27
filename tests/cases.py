"""What the tests of all calls share: inputs that are refused, all friends and groups of n people, and ways to ask."""

import itertools

GREATEST = 4294967295

# What is wrong, and (n, friends) of that kind.
REFUSALS = {
    "n is 0": [(0, [])],
    "n is above 5": [(6, [0] * 6), (7, [0] * 7), (6, [62, 61, 59, 55, 47, 31])],
    "n is far above 5": [
        (8, [0] * 7),
        (32, [0] * 5),
        (GREATEST, []),
        (GREATEST, [0]),
        (GREATEST, [0] * 5),
        (GREATEST, [0] * 7),
        (GREATEST, [GREATEST] * 7),
    ],
    "n is 0 and friends isn't empty": [(0, [0]), (0, [0] * 7)],
    "friends is too short": [(1, []), (2, [0]), (3, [0, 0]), (3, [6, 5]), (4, [0, 0, 0]), (5, [0] * 4), (5, [])],
    "friends is too long": [
        (1, [0, 0]),
        (2, [0, 0, 0]),
        (3, [6, 5, 3, 0]),
        (4, [0] * 5),
        (5, [0] * 6),
        (1, [0] * 7),
        (5, [0] * 7),
    ],
    "a friend who isn't there": [
        (1, [2]),
        (1, [GREATEST - 1]),
        (2, [4, 0]),
        (2, [0, 4]),
        (3, [8, 0, 0]),
        (3, [0, 8, 0]),
        (3, [0, 0, 8]),
        (3, [6, 5, 11]),
        (4, [0, 16, 0, 0]),
        (5, [32, 0, 0, 0, 0]),
        (5, [0, 0, 0, 0, 32]),
        (5, [30, 29, 27, 23, 47]),
        (5, [0, 0, 2147483648, 0, 0]),
        (5, [0, 0, 0, 0, GREATEST - 16]),
    ],
    "the greatest number among friends": [(1, [GREATEST]), (3, [0, GREATEST, 0]), (5, [0, 0, 0, 0, GREATEST])],
    "somebody's own friend": [
        (1, [1]),
        (2, [1, 0]),
        (2, [0, 2]),
        (3, [1, 0, 0]),
        (3, [0, 2, 0]),
        (3, [0, 0, 4]),
        (3, [6, 7, 3]),
        (5, [1, 0, 0, 0, 0]),
        (5, [0, 0, 0, 0, 16]),
        (5, [30, 29, 27, 23, 31]),
    ],
}

# What is wrong, and (n, groups) of that kind.
GROUP_REFUSALS = {
    "groups is too short": [(1, []), (2, [0]), (2, []), (3, [0, 1]), (3, [2]), (4, [0, 1, 2]), (5, [0] * 4), (5, [])],
    "groups is too long": [
        (1, [0, 0]),
        (2, [0, 1, 0]),
        (3, [0, 1, 2, 0]),
        (4, [0] * 5),
        (5, [0, 1, 2, 3, 4, 0]),
        (1, [0] * 7),
        (3, [0, 1, 2, 0, 1, 2, 0]),
        (5, [0] * 7),
    ],
    "a number is n": [
        (1, [1]),
        (2, [2, 0]),
        (2, [0, 2]),
        (3, [3, 0, 0]),
        (3, [0, 3, 0]),
        (3, [0, 0, 3]),
        (3, [3, 3, 3]),
        (4, [0, 1, 2, 4]),
        (5, [5, 0, 0, 0, 0]),
        (5, [0, 1, 2, 3, 5]),
    ],
    "a number is above n": [(1, [2]), (3, [0, 4, 0]), (5, [0, 0, 0, 0, 6]), (5, [2147483648, 0, 0, 0, 0])],
    "the greatest number": [
        (1, [GREATEST]),
        (2, [GREATEST, GREATEST]),
        (3, [0, GREATEST, 0]),
        (5, [GREATEST, 0, 1, 2, 3]),
        (5, [0, 1, 2, 3, GREATEST]),
    ],
    "too long, and the greatest number": [(3, [GREATEST] * 7), (5, [0, 0, 0, 0, 0, 0, GREATEST])],
}


def all_refusals():
    """Each refusal as (what is wrong, n, friends)."""
    return [(why, n, friends) for why, cases in REFUSALS.items() for n, friends in cases]


def all_group_refusals():
    """Each refusal of groups as (what is wrong, n, k, friends, groups)."""
    return [
        (why, n, k, friends, groups)
        for why, cases in GROUP_REFUSALS.items()
        for n, groups in cases
        for friends in some_friends(n)
        for k in (0, 1)
    ]


def all_friends(n, step=1):
    """All friends that n people may have, list by list, or one of each step."""
    sets = [[s for s in range(2 ** n) if i not in people(s)] for i in range(n)]
    return [list(friends) for friends in itertools.islice(itertools.product(*sets), 0, None, step)]


def some_friends(n):
    """Friends of n people: nobody's, all others, those of a ring, those who come after, those beside one."""
    return [
        [0] * n,
        [2 ** n - 1 - 2 ** i for i in range(n)],
        [2 ** ((i + 1) % n) if n > 1 else 0 for i in range(n)],
        [2 ** n - 2 ** (i + 1) for i in range(n)],
        [sum(2 ** j for j in (i - 1, i + 1) if 0 <= j < n) for i in range(n)],
    ]


def all_numbers(n):
    """All lists of a number below n for each person, whether numbered as they first come or not."""
    return [list(numbers) for numbers in itertools.product(range(n), repeat=n)]


def first_come(numbers):
    """The same groups, numbered as they first come."""
    order = list(dict.fromkeys(numbers))
    return [order.index(number) for number in numbers]


def all_groups(n):
    """All ways of n people to be in groups, numbered as they first come."""
    return [numbers for numbers in all_numbers(n) if numbers == first_come(numbers)]


def people(s):
    """The people in the set s, rising."""
    return [i for i in range(s.bit_length()) if s & 2 ** i]


def number_of(members):
    """The set of these people, as a number."""
    return sum(2 ** i for i in members)


def are_close(friends, members):
    """Whether each of these people has each other one for a friend."""
    return all(j in people(friends[i]) for i in members for j in members if i != j)


def as_told(n, friends):
    """Whether n and friends are as the document tells them, word by word."""
    others = [set(range(n)) - {i} for i in range(n)]
    return 1 <= n <= 5 and len(friends) == n and all(set(people(s)) <= rest for s, rest in zip(friends, others))


def reckon_by_hand(n, k, friends, groups):
    """What each has, each other one of their group put in by their worth."""
    friend, foe = (n, -1) if k == 0 else (1, -n)
    has = [0] * n
    for i in range(n):
        for j in range(n):
            if i != j and groups[i] == groups[j]:
                has[i] += friend if j in people(friends[i]) else foe
    return has


class Untouched(list):
    """A list that fails the test as soon as something would change it, if only for a while."""

    def refuse(self, *args, **kwargs):
        raise AssertionError("what is handed in was changed")

    append = clear = extend = insert = pop = remove = reverse = sort = refuse
    __setitem__ = __delitem__ = __iadd__ = __imul__ = refuse


class Asked:
    """What holds of each call that takes n and friends; a test case beside it names the call in `ask`."""

    def ask(self, n, friends):
        raise NotImplementedError

    def test_refusals(self):
        for why, n, friends in all_refusals():
            with self.subTest(why, n=n, friends=friends):
                self.assertEqual(self.ask(n, friends), [-22])

    def test_refused_just_where_not_as_told(self):
        for n in range(5):
            for length in range(4):
                for numbers in itertools.product(range(10), repeat=length):
                    refused = self.ask(n, list(numbers)) == [-22]
                    self.assertEqual(refused, not as_told(n, numbers), (n, numbers))

    def test_greatest_numbers_that_are_no_refusal(self):
        for n, friends in [(1, [0]), (5, [0] * 5), (5, [30, 29, 27, 23, 15]), (5, [16, 16, 16, 16, 8])]:
            with self.subTest(n=n, friends=friends):
                self.assertGreaterEqual(self.ask(n, friends)[0], 0)

    def test_friends_are_the_same_after(self):
        good = [("good", n, friends) for n in range(1, 4) for friends in all_friends(n)]
        good.append(("good", 5, [2, 4, 8, 16, 1]))
        for why, n, friends in good + all_refusals():
            handed = list(friends)
            answer = self.ask(n, handed)
            self.assertEqual(handed, friends, (why, n))
            self.assertIsNot(answer, handed)

    def test_friends_are_not_changed_for_a_while(self):
        for n in range(1, 4):
            for friends in all_friends(n):
                self.ask(n, Untouched(friends))
        for why, n, friends in all_refusals():
            self.ask(n, Untouched(friends))

    def test_nothing_is_kept(self):
        asked = [(3, [2, 4, 1]), (1, [0]), (3, [1, 0, 0]), (5, [30, 29, 27, 23, 15]), (0, []), (3, [2, 1, 0])]
        firsts = [list(self.ask(n, friends)) for n, friends in asked]
        for turn in range(3):
            for (n, friends), first in reversed(list(zip(asked, firsts))):
                answer = self.ask(n, friends)
                self.assertEqual(answer, first)
                answer.append(99)
                answer[0] = 99

    def test_one_list_of_whole_numbers(self):
        good = [("good", n, friends) for n in range(1, 4) for friends in all_friends(n)]
        for why, n, friends in good + all_refusals():
            answer = self.ask(n, friends)
            self.assertIs(type(answer), list)
            self.assertEqual({type(number) for number in answer}, {int}, (n, friends))


class AskedOfGroups(Asked):
    """What holds, besides, of each call that takes k and groups; a test case names the call in `ask_groups`."""

    def ask_groups(self, n, k, friends, groups):
        raise NotImplementedError

    def ask(self, n, friends):
        return self.ask_groups(n, 0, friends, [0] * min(n, 7))

    def test_refusals_of_n_and_friends_whatever_the_rest(self):
        for why, n, friends in all_refusals():
            for k in (0, 1, 2):
                for groups in ([], [0] * min(n, 7), [GREATEST] * 7, list(range(min(n, 7)))):
                    with self.subTest(why, n=n, k=k, friends=friends, groups=groups):
                        self.assertEqual(self.ask_groups(n, k, friends, groups), [-22])

    def test_refusals_of_k(self):
        for n in range(1, 6):
            for friends in some_friends(n):
                for groups in ([0] * n, list(range(n)), [], [n] * n):
                    for k in (2, 3, 256, 2147483648, GREATEST):
                        with self.subTest(n=n, k=k, friends=friends, groups=groups):
                            self.assertEqual(self.ask_groups(n, k, friends, groups), [-22])

    def test_refusals_of_groups(self):
        for why, n, k, friends, groups in all_group_refusals():
            with self.subTest(why, n=n, k=k, friends=friends, groups=groups):
                self.assertEqual(self.ask_groups(n, k, friends, groups), [-22])

    def test_refused_just_where_groups_is_not_as_told(self):
        for n in range(1, 4):
            for length in range(5):
                for numbers in itertools.product(range(5), repeat=length):
                    told = length == n and all(number < n for number in numbers)
                    for k in (0, 1):
                        refused = self.ask_groups(n, k, [0] * n, list(numbers)) == [-22]
                        self.assertEqual(refused, not told, (n, k, numbers))

    def test_the_numbers_of_groups_make_no_difference(self):
        for n in range(1, 5):
            for friends in some_friends(n):
                for groups in all_numbers(n):
                    for k in (0, 1):
                        plain = self.ask_groups(n, k, friends, first_come(groups))
                        self.assertEqual(self.ask_groups(n, k, friends, groups), plain, (k, friends, groups))

    def test_friends_and_groups_are_the_same_after(self):
        for n, k, friends, groups in self.good_and_refused():
            handed = (list(friends), list(groups))
            answer = self.ask_groups(n, k, *handed)
            self.assertEqual(handed, (friends, groups), (n, k))
            self.assertIsNot(answer, handed[0])
            self.assertIsNot(answer, handed[1])

    def test_friends_and_groups_are_not_changed_for_a_while(self):
        for n, k, friends, groups in self.good_and_refused():
            self.ask_groups(n, k, Untouched(friends), Untouched(groups))

    def test_of_groups_too_one_list_of_whole_numbers(self):
        for n, k, friends, groups in self.good_and_refused():
            answer = self.ask_groups(n, k, friends, groups)
            self.assertIs(type(answer), list)
            self.assertEqual({type(number) for number in answer}, {int}, (n, k, friends, groups))

    def test_of_groups_too_nothing_is_kept(self):
        asked = [
            (3, 0, [2, 4, 1], [0, 0, 0]),
            (3, 1, [2, 4, 1], [0, 0, 0]),
            (3, 1, [2, 4, 1], [2, 0, 2]),
            (3, 2, [2, 4, 1], [0, 0, 0]),
            (1, 0, [0], [0]),
            (5, 1, [30, 29, 27, 23, 15], [4, 4, 0, 0, 1]),
            (5, 0, [30, 29, 27, 23, 15], [4, 4, 0, 0, 5]),
        ]
        firsts = [list(self.ask_groups(*values)) for values in asked]
        for turn in range(3):
            for values, first in reversed(list(zip(asked, firsts))):
                answer = self.ask_groups(*values)
                self.assertEqual(answer, first)
                answer.append(99)
                answer[0] = 99

    def good_and_refused(self):
        """(n, k, friends, groups), good ones and such as are refused."""
        for n in range(1, 6):
            for friends in some_friends(n):
                for groups in all_groups(n) + [[n - 1] * n]:
                    for k in (0, 1, 2):
                        yield n, k, friends, groups
        for why, n, k, friends, groups in all_group_refusals():
            yield n, k, friends, groups
        for why, n, friends in all_refusals():
            yield n, 1, friends, [0] * min(n, 7)

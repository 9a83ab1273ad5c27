"""What the tests of all calls share: inputs that are refused, all friends of n people, and ways to ask."""

import itertools

GREATEST = 4294967295

# What is wrong, and (n, friends) of that kind.
REFUSALS = {
    "n is 0": [(0, [])],
    "n is above 5": [(6, [0] * 6), (7, [0] * 7), (6, [62, 61, 59, 55, 47, 31])],
    "n is far above 5": [
        (8, [0] * 7),
        (32, [0] * 5),
        (GREATEST, []),
        (GREATEST, [0]),
        (GREATEST, [0] * 5),
        (GREATEST, [0] * 7),
        (GREATEST, [GREATEST] * 7),
    ],
    "n is 0 and friends isn't empty": [(0, [0]), (0, [0] * 7)],
    "friends is too short": [(1, []), (2, [0]), (3, [0, 0]), (3, [6, 5]), (4, [0, 0, 0]), (5, [0] * 4), (5, [])],
    "friends is too long": [
        (1, [0, 0]),
        (2, [0, 0, 0]),
        (3, [6, 5, 3, 0]),
        (4, [0] * 5),
        (5, [0] * 6),
        (1, [0] * 7),
        (5, [0] * 7),
    ],
    "a friend who isn't there": [
        (1, [2]),
        (1, [GREATEST - 1]),
        (2, [4, 0]),
        (2, [0, 4]),
        (3, [8, 0, 0]),
        (3, [0, 8, 0]),
        (3, [0, 0, 8]),
        (3, [6, 5, 11]),
        (4, [0, 16, 0, 0]),
        (5, [32, 0, 0, 0, 0]),
        (5, [0, 0, 0, 0, 32]),
        (5, [30, 29, 27, 23, 47]),
        (5, [0, 0, 2147483648, 0, 0]),
        (5, [0, 0, 0, 0, GREATEST - 16]),
    ],
    "the greatest number among friends": [(1, [GREATEST]), (3, [0, GREATEST, 0]), (5, [0, 0, 0, 0, GREATEST])],
    "somebody's own friend": [
        (1, [1]),
        (2, [1, 0]),
        (2, [0, 2]),
        (3, [1, 0, 0]),
        (3, [0, 2, 0]),
        (3, [0, 0, 4]),
        (3, [6, 7, 3]),
        (5, [1, 0, 0, 0, 0]),
        (5, [0, 0, 0, 0, 16]),
        (5, [30, 29, 27, 23, 31]),
    ],
}


def all_refusals():
    """Each refusal as (what is wrong, n, friends)."""
    return [(why, n, friends) for why, cases in REFUSALS.items() for n, friends in cases]


def all_friends(n):
    """All friends that n people may have, list by list."""
    sets = [[s for s in range(2 ** n) if i not in people(s)] for i in range(n)]
    return [list(friends) for friends in itertools.product(*sets)]


def people(s):
    """The people in the set s, rising."""
    return [i for i in range(s.bit_length()) if s & 2 ** i]


def as_told(n, friends):
    """Whether n and friends are as the document tells them, word by word."""
    others = [set(range(n)) - {i} for i in range(n)]
    return 1 <= n <= 5 and len(friends) == n and all(set(people(s)) <= rest for s, rest in zip(friends, others))


class Untouched(list):
    """A list that fails the test as soon as something would change it, if only for a while."""

    def refuse(self, *args, **kwargs):
        raise AssertionError("what is handed in was changed")

    append = clear = extend = insert = pop = remove = reverse = sort = refuse
    __setitem__ = __delitem__ = __iadd__ = __imul__ = refuse


class Asked:
    """What holds of each call that takes n and friends; a test case beside it names the call in `ask`."""

    def ask(self, n, friends):
        raise NotImplementedError

    def test_refusals(self):
        for why, n, friends in all_refusals():
            with self.subTest(why, n=n, friends=friends):
                self.assertEqual(self.ask(n, friends), [-22])

    def test_refused_just_where_not_as_told(self):
        for n in range(5):
            for length in range(4):
                for numbers in itertools.product(range(10), repeat=length):
                    refused = self.ask(n, list(numbers)) == [-22]
                    self.assertEqual(refused, not as_told(n, numbers), (n, numbers))

    def test_greatest_numbers_that_are_no_refusal(self):
        for n, friends in [(1, [0]), (5, [0] * 5), (5, [30, 29, 27, 23, 15]), (5, [16, 16, 16, 16, 8])]:
            with self.subTest(n=n, friends=friends):
                self.assertGreater(self.ask(n, friends)[0], 0)

    def test_friends_are_the_same_after(self):
        good = [("good", n, friends) for n in range(1, 4) for friends in all_friends(n)]
        good.append(("good", 5, [2, 4, 8, 16, 1]))
        for why, n, friends in good + all_refusals():
            handed = list(friends)
            answer = self.ask(n, handed)
            self.assertEqual(handed, friends, (why, n))
            self.assertIsNot(answer, handed)

    def test_friends_are_not_changed_for_a_while(self):
        for n in range(1, 4):
            for friends in all_friends(n):
                self.ask(n, Untouched(friends))
        for why, n, friends in all_refusals():
            self.ask(n, Untouched(friends))

    def test_nothing_is_kept(self):
        asked = [(3, [2, 4, 1]), (1, [0]), (3, [1, 0, 0]), (5, [30, 29, 27, 23, 15]), (0, []), (3, [2, 1, 0])]
        firsts = [list(self.ask(n, friends)) for n, friends in asked]
        for turn in range(3):
            for (n, friends), first in reversed(list(zip(asked, firsts))):
                answer = self.ask(n, friends)
                self.assertEqual(answer, first)
                answer.append(99)
                answer[0] = 99

    def test_one_list_of_whole_numbers(self):
        good = [("good", n, friends) for n in range(1, 4) for friends in all_friends(n)]
        for why, n, friends in good + all_refusals():
            answer = self.ask(n, friends)
            self.assertIs(type(answer), list)
            self.assertEqual({type(number) for number in answer}, {int}, (n, friends))

"""core: how many of all ways to be in groups hold, then each person's group in the first one."""

import itertools
import unittest

from ringsheld import people
from tests.cases import GREATEST, Asked, Untouched, all_friends, all_groups, all_refusals, are_close, some_friends
from tests.cases import people as people_of

KINDS = list(itertools.product((0, 1), repeat=2))


def has_by_hand(n, k, friends):
    """Of each set what each of it has in a group of just these, each other one put in by their worth."""
    friend, foe = (n, -1) if k == 0 else (1, -n)
    worth = [[friend if j in people_of(friends[i]) else foe for j in range(n)] for i in range(n)]
    members = {s: people_of(s) for s in range(1, 2 ** n)}
    return {s: {i: sum(worth[i][j] for j in those if j != i) for i in those} for s, those in members.items()}


def core_by_hand(n, k, friends, ways):
    """The answers for w 0 and w 1, by asking of each of all ways whether one set of all would leave it."""
    has = has_by_hand(n, k, friends)
    holding = ([], [])
    for groups in ways:
        sets = [sum(2 ** j for j in range(n) if groups[j] == groups[i]) for i in range(n)]
        had = [has[s][i] for i, s in enumerate(sets)]
        gains = [[more - had[i] for i, more in those.items()] for those in has.values()]
        if not any(min(gain) > 0 for gain in gains):
            holding[0].append(groups)
        if not any(min(gain) >= 0 and max(gain) > 0 for gain in gains):
            holding[1].append(groups)
    return [[len(those)] + min(those, default=[]) for those in holding]


def with_friends_alone(friends, groups):
    """Whether each has all others of their group for friends."""
    together = [[i for i, number in enumerate(groups) if number == one] for one in set(groups)]
    return all(are_close(friends, members) for members in together)


class FriendsFirstAsked(Asked, unittest.TestCase):
    def ask(self, n, friends):
        return people.core(n, 0, 0, friends)


class FriendsFirstWeaklyAsked(Asked, unittest.TestCase):
    def ask(self, n, friends):
        return people.core(n, 0, 1, friends)


class FoesFirstAsked(Asked, unittest.TestCase):
    def ask(self, n, friends):
        return people.core(n, 1, 0, friends)


class FoesFirstWeaklyAsked(Asked, unittest.TestCase):
    def ask(self, n, friends):
        return people.core(n, 1, 1, friends)


class Refusals(unittest.TestCase):
    def check(self, n, k, w, friends):
        with self.subTest(n=n, k=k, w=w, friends=friends):
            handed = Untouched(friends)
            self.assertEqual(people.core(n, k, w, handed), [-22])
            self.assertEqual(handed, friends)

    def test_k_is_above_1(self):
        for n in range(1, 6):
            for friends in some_friends(n):
                for k in (2, 3, 256, 2147483648, GREATEST):
                    for w in (0, 1):
                        self.check(n, k, w, friends)

    def test_w_is_above_1(self):
        for n in range(1, 6):
            for friends in some_friends(n):
                for w in (2, 3, 256, 2147483648, GREATEST):
                    for k in (0, 1):
                        self.check(n, k, w, friends)

    def test_k_and_w_are_above_1(self):
        for k, w in itertools.product((2, GREATEST), repeat=2):
            self.check(3, k, w, [2, 4, 1])

    def test_n_or_friends_whatever_the_rest(self):
        for why, n, friends in all_refusals():
            for k, w in itertools.product((0, 1, 2, GREATEST), repeat=2):
                self.check(n, k, w, friends)


class Core(unittest.TestCase):
    def check(self, friends, answers):
        """The answers in their order: friends first, then weakly, foes first, then weakly."""
        for (k, w), answer in zip(KINDS, answers, strict=True):
            with self.subTest(k=k, w=w, friends=friends):
                handed = Untouched(friends)
                self.assertEqual(people.core(len(friends), k, w, handed), answer)
                self.assertEqual(handed, friends)

    def test_one_person(self):
        self.check([0], [[1, 0]] * 4)

    def test_nobody_has_friends(self):
        self.check([0, 0], [[1, 0, 1]] * 4)
        self.check([0, 0, 0], [[1, 0, 1, 2]] * 4)
        self.check([0, 0, 0, 0], [[1, 0, 1, 2, 3]] * 4)
        self.check([0, 0, 0, 0, 0], [[1, 0, 1, 2, 3, 4]] * 4)

    def test_all_are_friends(self):
        self.check([2, 1], [[1, 0, 0]] * 4)
        self.check([6, 5, 3], [[1, 0, 0, 0]] * 4)
        self.check([14, 13, 11, 7], [[1, 0, 0, 0, 0]] * 4)
        self.check([30, 29, 27, 23, 15], [[1, 0, 0, 0, 0, 0]] * 4)

    def test_a_friend_who_is_not_ones_friend(self):
        self.check([2, 0], [[1, 0, 1]] * 4)
        self.check([0, 1], [[1, 0, 1]] * 4)
        self.check([6, 1, 0], [[1, 0, 0, 1]] * 4)
        self.check([30, 28, 24, 16, 0], [[1, 0, 1, 2, 3, 4]] * 4)
        # 1 and 2 hold together weakly too: 1 has 3 - 1 with 0 and 2, and 3 with 2 alone.
        self.check([2, 4, 3], [[2, 0, 0, 0], [2, 0, 0, 0], [1, 0, 1, 1], [1, 0, 1, 1]])

    def test_a_ring_of_three(self):
        self.check([2, 4, 1], [[1, 0, 0, 0]] * 2 + [[1, 0, 1, 2]] * 2)
        self.check([4, 1, 2], [[1, 0, 0, 0]] * 2 + [[1, 0, 1, 2]] * 2)
        self.check([0, 4, 8, 2], [[1, 0, 1, 1, 1]] * 2 + [[1, 0, 1, 2, 3]] * 2)
        self.check([2, 4, 1, 16, 8], [[1, 0, 0, 0, 1, 1]] * 2 + [[1, 0, 1, 2, 3, 3]] * 2)

    def test_two_greatest_sets_as_great(self):
        self.check([2, 5, 2], [[3, 0, 0, 0], [1, 0, 0, 0], [2, 0, 0, 1], [0]])
        self.check([4, 4, 3], [[3, 0, 0, 0], [1, 0, 0, 0], [2, 0, 1, 0], [0]])
        self.check([6, 5, 27, 20, 12], [[3, 0, 0, 0, 0, 0], [1, 0, 0, 0, 0, 0], [2, 0, 0, 0, 1, 1], [0]])
        self.check([24, 12, 10, 23, 9], [[3, 0, 0, 0, 0, 0], [1, 0, 0, 0, 0, 0], [2, 0, 1, 1, 0, 0], [0]])

    def test_a_set_of_one(self):
        self.check([0, 4, 2], [[1, 0, 1, 1]] * 4)
        self.check([4, 0, 1], [[1, 0, 1, 0]] * 4)
        self.check([2, 1, 0], [[1, 0, 0, 1]] * 4)
        self.check([30, 29, 27, 7, 15], [[2, 0, 0, 0, 0, 0], [1, 0, 0, 0, 0, 0], [2, 0, 0, 0, 0, 1], [0]])

    def test_the_first_way_by_the_first_person_whose_number_differs(self):
        # Foes first [0, 0, 1, 1] and [0, 1, 1, 0] hold; the last person's number is less in the second.
        self.check([10, 5, 10, 5], [[1, 0, 0, 0, 0]] * 2 + [[2, 0, 0, 1, 1]] * 2)
        self.check([6, 9, 9, 6], [[1, 0, 0, 0, 0]] * 2 + [[2, 0, 0, 1, 1]] * 2)
        self.check([18, 5, 10, 20, 9], [[6, 0, 0, 0, 0, 0], [1, 0, 0, 0, 0, 0], [5, 0, 0, 1, 1, 2], [0]])

    def test_each_way_is_counted_once(self):
        # Foes first one of the others is with person 0, and each of the rest alone.
        self.check([14, 1, 1, 1], [[4, 0, 0, 0, 0], [1, 0, 0, 0, 0], [3, 0, 0, 1, 2], [0]])
        self.check([30, 1, 1, 1, 1], [[11, 0, 0, 0, 0, 0], [1, 0, 0, 0, 0, 0], [4, 0, 0, 1, 2, 3], [0]])
        self.check([2, 5, 10, 20, 8], [[6, 0, 0, 0, 0, 0], [1, 0, 0, 0, 0, 0], [3, 0, 0, 1, 1, 2], [0]])

    def test_groups_are_numbered_as_they_first_come(self):
        self.check([8, 4, 2, 1], [[1, 0, 1, 1, 0]] * 4)
        self.check([16, 0, 8, 4, 1], [[1, 0, 1, 2, 2, 0]] * 4)
        self.check([0, 16, 8, 4, 2], [[1, 0, 1, 2, 2, 1]] * 4)
        self.check([16, 8, 0, 2, 1], [[1, 0, 1, 2, 1, 0]] * 4)

    def test_no_way_holds_weakly_leaving(self):
        for friends in ([2, 5, 2], [6, 1, 1], [6, 1, 3], [14, 1, 1, 1], [18, 5, 10, 20, 9], [30, 1, 1, 1, 1]):
            with self.subTest(friends=friends):
                self.assertEqual(people.core(len(friends), 1, 1, friends), [0])
                self.assertGreater(people.core(len(friends), 1, 0, friends)[0], 0)

    def test_all_friends_of_up_to_four_as_reckoned_by_hand(self):
        for n in range(1, 5):
            ways = all_groups(n)
            for friends in all_friends(n):
                self.hold_as_told(n, friends, ways)

    def test_many_friends_of_five_as_reckoned_by_hand(self):
        ways = all_groups(5)
        for friends in some_friends(5) + all_friends(5, 16381):
            self.hold_as_told(5, friends, ways)

    def hold_as_told(self, n, friends, ways):
        for k in (0, 1):
            for w, answer in enumerate(core_by_hand(n, k, friends, ways)):
                self.assertEqual(people.core(n, k, w, friends), answer, (k, w, friends))


class WaysThatHold(unittest.TestCase):
    def test_the_ways_that_hold_are_those_without_leavers(self):
        for n in range(1, 4):
            for friends in all_friends(n):
                for k, w in KINDS:
                    ways = [groups for groups in all_groups(n) if people.leavers(n, k, w, friends, groups) == [0]]
                    answer = [len(ways)] + (ways[0] if ways else [])
                    self.assertEqual(people.core(n, k, w, friends), answer, (k, w, friends))

    def test_friends_first_no_way_is_told_that_comes_after_the_rings(self):
        for n in range(1, 5):
            for friends in all_friends(n):
                rings = people.rings(n, friends)[1:]
                for w in (0, 1):
                    self.assertLessEqual(people.core(n, 0, w, friends)[1:], rings, (w, friends))

    def test_foes_first_in_each_way_that_holds_one_is_with_friends_alone(self):
        for n in range(1, 4):
            for friends in all_friends(n):
                for groups in all_groups(n):
                    if people.leavers(n, 1, 0, friends, groups) == [0]:
                        self.assertTrue(with_friends_alone(friends, groups), (friends, groups))

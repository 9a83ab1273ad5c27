"""leavers: how many sets would leave, or would leave weakly, then these, rising."""

import itertools
import unittest

from ringsheld import people
from tests.cases import GREATEST, AskedOfGroups, Untouched, all_friends, all_group_refusals, all_groups
from tests.cases import all_numbers, all_refusals, reckon_by_hand, some_friends
from tests.cases import people as people_of


def leave_by_hand(n, k, w, friends, groups):
    """The answer, by letting each set leave and reckoning anew what each has then."""
    before = reckon_by_hand(n, k, friends, groups)
    sets = []
    for s in range(1, 2 ** n):
        members = people_of(s)
        after = reckon_by_hand(n, k, friends, [n if i in members else groups[i] for i in range(n)])
        gains = [after[i] - before[i] for i in members]
        if (w == 0 and min(gains) > 0) or (w == 1 and min(gains) >= 0 and max(gains) > 0):
            sets.append(s)
    return [len(sets)] + sets


class LeaversAsked(AskedOfGroups, unittest.TestCase):
    def ask_groups(self, n, k, friends, groups):
        return people.leavers(n, k, 0, friends, groups)


class WeakLeaversAsked(AskedOfGroups, unittest.TestCase):
    def ask_groups(self, n, k, friends, groups):
        return people.leavers(n, k, 1, friends, groups)


class Refusals(unittest.TestCase):
    def check(self, n, k, w, friends, groups):
        with self.subTest(n=n, k=k, w=w, friends=friends, groups=groups):
            handed = (Untouched(friends), Untouched(groups))
            self.assertEqual(people.leavers(n, k, w, *handed), [-22])
            self.assertEqual(handed, (friends, groups))

    def test_w_is_above_1(self):
        for n in range(1, 6):
            for friends in some_friends(n):
                for groups in ([0] * n, list(range(n)), [n - 1] * n):
                    for k in (0, 1):
                        for w in (2, 3, 256, 2147483648, GREATEST):
                            self.check(n, k, w, friends, groups)

    def test_w_and_something_else(self):
        for w in (2, GREATEST):
            for why, n, friends in all_refusals():
                self.check(n, 0, w, friends, [0] * min(n, 7))
            for why, n, k, friends, groups in all_group_refusals():
                self.check(n, k, w, friends, groups)
            self.check(3, 2, w, [2, 4, 1], [0, 0, 0])
            self.check(3, GREATEST, w, [2, 4, 1], [0, 0, 0])


class Leavers(unittest.TestCase):
    def check(self, friends, groups, answers):
        """The answers in their order: friends first, then weakly, foes first, then weakly."""
        for (k, w), answer in zip(itertools.product((0, 1), repeat=2), answers, strict=True):
            with self.subTest(k=k, w=w, friends=friends, groups=groups):
                self.assertEqual(people.leavers(len(friends), k, w, friends, groups), answer)

    def test_one_person(self):
        self.check([0], [0], [[0]] * 4)

    def test_nobody_has_friends(self):
        self.check([0, 0], [0, 1], [[0]] * 4)
        self.check([0, 0], [0, 0], [[2, 1, 2]] * 4)
        self.check([0, 0, 0], [0, 0, 1], [[2, 1, 2]] * 4)
        self.check([0, 0, 0], [0, 0, 0], [[6, 1, 2, 3, 4, 5, 6]] * 4)
        self.check([0] * 4, [0, 1, 2, 3], [[0]] * 4)
        self.check([0] * 5, [0] * 5, [[30] + list(range(1, 31))] * 4)

    def test_all_are_friends(self):
        self.check([2, 1], [0, 0], [[0]] * 4)
        self.check([2, 1], [0, 1], [[1, 3]] * 4)
        self.check([6, 5, 3], [0, 1, 2], [[4, 3, 5, 6, 7]] * 4)
        self.check([6, 5, 3], [0, 0, 1], [[1, 7], [3, 5, 6, 7]] * 2)
        self.check([14, 13, 11, 7], [0, 0, 0, 0], [[0]] * 4)
        two_or_more = [s for s in range(32) if len(people_of(s)) > 1]
        self.check([30, 29, 27, 23, 15], [0, 1, 2, 3, 4], [[26] + two_or_more] * 4)

    def test_a_friend_who_is_not_ones_friend(self):
        self.check([2, 0], [0, 0], [[1, 2]] * 4)
        self.check([2, 0], [0, 1], [[0]] * 4)
        self.check([0, 1], [0, 0], [[1, 1]] * 4)
        self.check([6, 1, 0], [0, 0, 1], [[0]] * 4)
        self.check([6, 1, 0], [0, 1, 0], [[1, 4], [2, 3, 4]] * 2)

    def test_a_ring_of_three(self):
        self.check([2, 4, 1], [0, 0, 0], [[0], [0], [3, 1, 2, 4], [3, 1, 2, 4]])
        self.check([2, 4, 1], [0, 1, 2], [[1, 7], [1, 7], [0], [0]])
        self.check([2, 4, 1], [0, 0, 1], [[1, 2]] * 4)
        self.check([4, 1, 2], [0, 0, 0], [[0], [0], [3, 1, 2, 4], [3, 1, 2, 4]])

    def test_a_set_of_one(self):
        # Foes first persons 0 and 1 have 1 - 3 together with 2, and 0 alone.
        self.check([2, 1, 0], [0, 0, 0], [[2, 3, 4]] * 2 + [[4, 1, 2, 3, 4]] * 2)
        self.check([0, 4, 2], [0, 0, 1], [[3, 1, 2, 6]] * 4)
        self.check([30, 29, 27, 23, 0], [0] * 5, [[1, 16]] * 4)

    def test_weakly_one_has_more_and_the_others_as_much(self):
        self.check([2, 5, 2], [0, 0, 1], [[0], [1, 6]] * 2)
        self.check([2, 5, 2], [0, 1, 1], [[0], [1, 3]] * 2)
        self.check([10, 5, 10, 5], [0, 0, 1, 1], [[1, 15], [1, 15], [0], [0]])

    def test_weakly_somebody_must_have_more(self):
        self.check([2, 1, 8, 4], [0, 0, 1, 1], [[0]] * 4)
        # Foes first each has 2 - 4, and more alone or with one friend.
        self.check([10, 5, 10, 5], [0, 0, 0, 0], [[0]] * 2 + [[8, 1, 2, 3, 4, 6, 8, 9, 12]] * 2)

    def test_numbers_that_do_not_come_in_order_or_are_left_out(self):
        self.check([2, 5, 2], [2, 2, 0], [[0], [1, 6]] * 2)
        self.check([2, 5, 2], [2, 0, 0], [[0], [1, 3]] * 2)
        self.check([2, 4, 1], [2, 2, 2], [[0], [0], [3, 1, 2, 4], [3, 1, 2, 4]])
        self.check([2, 4, 1], [2, 1, 0], [[1, 7], [1, 7], [0], [0]])
        self.check([0] * 5, [4] * 5, [[30] + list(range(1, 31))] * 4)

    def test_all_friends_and_groups_of_up_to_three_as_left_by_hand(self):
        for n in range(1, 4):
            for friends in all_friends(n):
                for groups in all_numbers(n):
                    self.hold_as_told(n, friends, groups)

    def test_many_friends_of_four_and_five_as_left_by_hand(self):
        for n, step in ((4, 61), (5, 65537)):
            for friends in some_friends(n) + all_friends(n, step):
                for groups in all_groups(n):
                    self.hold_as_told(n, friends, groups)

    def hold_as_told(self, n, friends, groups):
        for k, w in itertools.product((0, 1), repeat=2):
            answer = leave_by_hand(n, k, w, friends, groups)
            self.assertEqual(people.leavers(n, k, w, friends, groups), answer, (k, w, friends, groups))

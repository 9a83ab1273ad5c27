"""worths: how many groups there are, then what each person has."""

import unittest

from ringsheld import people
from tests.cases import AskedOfGroups, all_friends, all_groups, all_numbers, reckon_by_hand, some_friends


class Worths(AskedOfGroups, unittest.TestCase):
    def ask_groups(self, n, k, friends, groups):
        return people.worths(n, k, friends, groups)

    def check(self, friends, groups, friends_first, foes_first):
        for k, answer in enumerate([friends_first, foes_first]):
            with self.subTest(k=k, friends=friends, groups=groups):
                self.assertEqual(people.worths(len(friends), k, friends, groups), answer)

    def test_one_person(self):
        self.check([0], [0], [1, 0], [1, 0])

    def test_nobody_has_friends(self):
        self.check([0, 0], [0, 0], [1, -1, -1], [1, -2, -2])
        self.check([0, 0, 0], [0, 0, 0], [1, -2, -2, -2], [1, -6, -6, -6])
        self.check([0, 0, 0, 0], [0, 1, 0, 0], [2, -2, 0, -2, -2], [2, -8, 0, -8, -8])
        self.check([0] * 5, [0] * 5, [1, -4, -4, -4, -4, -4], [1, -20, -20, -20, -20, -20])
        self.check([0] * 5, [0, 0, 1, 1, 1], [2, -1, -1, -2, -2, -2], [2, -5, -5, -10, -10, -10])

    def test_all_are_friends(self):
        self.check([2, 1], [0, 0], [1, 2, 2], [1, 1, 1])
        self.check([6, 5, 3], [0, 0, 0], [1, 6, 6, 6], [1, 2, 2, 2])
        self.check([6, 5, 3], [0, 1, 0], [2, 3, 0, 3], [2, 1, 0, 1])
        self.check([14, 13, 11, 7], [0, 0, 1, 1], [2, 4, 4, 4, 4], [2, 1, 1, 1, 1])
        self.check([30, 29, 27, 23, 15], [0] * 5, [1, 20, 20, 20, 20, 20], [1, 4, 4, 4, 4, 4])

    def test_a_friend_who_is_not_ones_friend(self):
        self.check([2, 0], [0, 0], [1, 2, -1], [1, 1, -2])
        self.check([0, 1], [0, 0], [1, -1, 2], [1, -2, 1])
        self.check([6, 1, 0], [0, 0, 0], [1, 6, 2, -2], [1, 2, -2, -6])
        self.check([6, 1, 0], [0, 1, 0], [2, 3, 0, -1], [2, 1, 0, -3])
        self.check([30, 28, 24, 16, 0], [0] * 5, [1, 20, 14, 8, 2, -4], [1, 4, -2, -8, -14, -20])

    def test_a_ring_of_three(self):
        self.check([2, 4, 1], [0, 0, 0], [1, 2, 2, 2], [1, -2, -2, -2])
        self.check([4, 1, 2], [0, 0, 0], [1, 2, 2, 2], [1, -2, -2, -2])
        self.check([2, 4, 1], [0, 0, 1], [2, 3, -1, 0], [2, 1, -3, 0])
        self.check([2, 4, 1, 16, 8], [0, 0, 0, 1, 1], [2, 4, 4, 4, 5, 5], [2, -4, -4, -4, 1, 1])

    def test_each_by_themselves(self):
        for n in range(1, 6):
            for friends in some_friends(n):
                answer = [n] + [0] * n
                self.check(friends, list(range(n)), answer, answer)

    def test_all_in_one_group(self):
        self.check([2, 5, 2], [0, 0, 0], [1, 2, 6, 2], [1, -2, 2, -2])
        self.check([2, 5, 10, 4], [0, 0, 0, 0], [1, 2, 7, 7, 2], [1, -7, -2, -2, -7])
        self.check([2, 5, 10, 20, 8], [0] * 5, [1, 2, 8, 8, 8, 2], [1, -14, -8, -8, -8, -14])

    def test_friends_and_foes_of_other_groups_are_worth_nothing(self):
        self.check([4, 8, 1, 2], [0, 0, 1, 1], [2, -1, -1, -1, -1], [2, -4, -4, -4, -4])
        self.check([4, 8, 1, 2], [0, 1, 0, 1], [2, 4, 4, 4, 4], [2, 1, 1, 1, 1])
        self.check([16, 0, 8, 4, 1], [0, 1, 2, 2, 0], [3, 5, 0, 5, 5, 5], [3, 1, 0, 1, 1, 1])

    def test_numbers_that_do_not_come_in_order(self):
        self.check([2, 1], [1, 0], [2, 0, 0], [2, 0, 0])
        self.check([6, 5, 3], [2, 1, 0], [3, 0, 0, 0], [3, 0, 0, 0])
        self.check([6, 5, 3], [1, 0, 1], [2, 3, 0, 3], [2, 1, 0, 1])
        self.check([2, 4, 8, 16, 1], [4, 3, 2, 1, 0], [5, 0, 0, 0, 0, 0], [5, 0, 0, 0, 0, 0])

    def test_numbers_that_are_left_out(self):
        self.check([2, 1], [1, 1], [1, 2, 2], [1, 1, 1])
        self.check([2, 4, 1], [2, 2, 2], [1, 2, 2, 2], [1, -2, -2, -2])
        self.check([2, 4, 1], [2, 2, 0], [2, 3, -1, 0], [2, 1, -3, 0])
        self.check([2, 4, 1], [0, 2, 0], [2, -1, 0, 3], [2, -3, 0, 1])
        self.check([30, 29, 27, 23, 15], [4] * 5, [1, 20, 20, 20, 20, 20], [1, 4, 4, 4, 4, 4])
        self.check([30, 29, 27, 23, 15], [4, 0, 4, 0, 4], [2, 10, 5, 10, 5, 10], [2, 2, 1, 2, 1, 2])
        self.check([0] * 5, [3, 1, 1, 3, 4], [3, -1, -1, -1, -1, 0], [3, -5, -5, -5, -5, 0])

    def test_all_friends_of_up_to_four_as_reckoned_by_hand(self):
        for n in range(1, 5):
            ways = all_groups(n)
            for friends in all_friends(n):
                for groups in ways:
                    self.hold_as_told(n, friends, groups)

    def test_all_numbers_of_groups_of_five(self):
        for groups in all_numbers(5):
            for friends in [[2, 4, 8, 16, 1], [30, 28, 24, 16, 0], [18, 5, 10, 20, 9]]:
                self.hold_as_told(5, friends, groups)

    def hold_as_told(self, n, friends, groups):
        for k in (0, 1):
            answer = [len(set(groups))] + reckon_by_hand(n, k, friends, groups)
            self.assertEqual(people.worths(n, k, friends, groups), answer, (k, friends, groups))

"""rings: how many rings of friends there are, then each person's group."""

import unittest

from ringsheld import people
from tests.cases import Asked, all_friends


def leads(friends, i, j):
    """Whether a way of friends leads from i to j, walked person by person."""
    seen = []
    waiting = [i]
    while waiting:
        here = waiting.pop()
        if here not in seen:
            seen.append(here)
            waiting.extend(k for k in range(len(friends)) if friends[here] // 2 ** k % 2)
    return j in seen


class Rings(Asked, unittest.TestCase):
    def ask(self, n, friends):
        return people.rings(n, friends)

    def check(self, friends, answer):
        with self.subTest(friends=friends):
            self.assertEqual(people.rings(len(friends), friends), answer)

    def test_one_person(self):
        self.check([0], [1, 0])

    def test_nobody_has_friends(self):
        self.check([0, 0], [2, 0, 1])
        self.check([0, 0, 0], [3, 0, 1, 2])
        self.check([0, 0, 0, 0], [4, 0, 1, 2, 3])
        self.check([0, 0, 0, 0, 0], [5, 0, 1, 2, 3, 4])

    def test_all_are_friends(self):
        self.check([2, 1], [1, 0, 0])
        self.check([6, 5, 3], [1, 0, 0, 0])
        self.check([14, 13, 11, 7], [1, 0, 0, 0, 0])
        self.check([30, 29, 27, 23, 15], [1, 0, 0, 0, 0, 0])

    def test_a_friend_who_is_not_ones_friend(self):
        self.check([2, 0], [2, 0, 1])
        self.check([0, 1], [2, 0, 1])
        self.check([6, 1, 0], [2, 0, 0, 1])
        self.check([0, 4, 3], [2, 0, 1, 1])

    def test_a_ring_of_three(self):
        self.check([2, 4, 1], [1, 0, 0, 0])
        self.check([4, 1, 2], [1, 0, 0, 0])
        self.check([0, 4, 8, 2], [2, 0, 1, 1, 1])
        self.check([4, 0, 16, 0, 1], [3, 0, 1, 0, 2, 0])

    def test_a_ring_of_all_five(self):
        self.check([2, 4, 8, 16, 1], [1, 0, 0, 0, 0, 0])
        self.check([16, 1, 2, 4, 8], [1, 0, 0, 0, 0, 0])
        self.check([4, 8, 16, 1, 2], [1, 0, 0, 0, 0, 0])

    def test_ways_that_lead_there_but_not_back(self):
        self.check([2, 4, 0], [3, 0, 1, 2])
        self.check([2, 4, 8, 16, 0], [5, 0, 1, 2, 3, 4])
        self.check([0, 1, 2, 4, 8], [5, 0, 1, 2, 3, 4])
        self.check([30, 28, 24, 16, 0], [5, 0, 1, 2, 3, 4])
        self.check([2, 5, 8, 0], [3, 0, 0, 1, 2])
        self.check([2, 1, 8, 4, 5], [3, 0, 0, 1, 1, 2])

    def test_two_rings_with_a_way_from_one_to_the_other(self):
        self.check([2, 5, 8, 4], [2, 0, 0, 1, 1])
        self.check([2, 4, 9, 16, 8], [2, 0, 0, 0, 1, 1])
        self.check([2, 1, 9, 16, 4], [2, 0, 0, 1, 1, 1])

    def test_groups_are_numbered_as_they_first_come(self):
        self.check([4, 8, 1, 2], [2, 0, 1, 0, 1])
        self.check([8, 4, 2, 1], [2, 0, 1, 1, 0])
        self.check([0, 16, 8, 4, 2], [3, 0, 1, 2, 2, 1])
        self.check([16, 0, 8, 4, 1], [3, 0, 1, 2, 2, 0])
        self.check([16, 8, 0, 2, 1], [3, 0, 1, 2, 1, 0])

    def test_all_friends_of_up_to_four(self):
        for n in range(1, 5):
            for friends in all_friends(n):
                self.hold_as_told(n, friends)

    def hold_as_told(self, n, friends):
        found, *groups = people.rings(n, friends)
        self.assertEqual(len(groups), n, friends)
        first_come = list(dict.fromkeys(groups))
        self.assertEqual(first_come, list(range(found)), friends)
        ways = [[leads(friends, i, j) for j in range(n)] for i in range(n)]
        for i in range(n):
            for j in range(n):
                self.assertEqual(groups[i] == groups[j], ways[i][j] and ways[j][i], (friends, i, j))

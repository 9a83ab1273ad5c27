"""peeled: how many sets are peeled, then these, in order."""

import itertools
import unittest

from ringsheld import people
from tests.cases import Asked, all_friends, are_close, number_of
from tests.cases import people as people_of


def peel_by_hand(friends):
    """The sets peeled, by trying the sets of those who are left from the greatest down."""
    left = list(range(len(friends)))
    sets = []
    while left:
        for many in range(len(left), 0, -1):
            close = [number_of(s) for s in itertools.combinations(left, many) if are_close(friends, s)]
            if close:
                break
        sets.append(min(close))
        left = [i for i in left if i not in people_of(sets[-1])]
    return sets


class Peeled(Asked, unittest.TestCase):
    def ask(self, n, friends):
        return people.peeled(n, friends)

    def check(self, friends, answer):
        with self.subTest(friends=friends):
            self.assertEqual(people.peeled(len(friends), friends), answer)

    def test_one_person(self):
        self.check([0], [1, 1])

    def test_nobody_has_friends(self):
        self.check([0, 0], [2, 1, 2])
        self.check([0, 0, 0], [3, 1, 2, 4])
        self.check([0, 0, 0, 0], [4, 1, 2, 4, 8])
        self.check([0, 0, 0, 0, 0], [5, 1, 2, 4, 8, 16])

    def test_all_are_friends(self):
        self.check([2, 1], [1, 3])
        self.check([6, 5, 3], [1, 7])
        self.check([14, 13, 11, 7], [1, 15])
        self.check([30, 29, 27, 23, 15], [1, 31])

    def test_a_friend_who_is_not_ones_friend(self):
        self.check([2, 0], [2, 1, 2])
        self.check([0, 1], [2, 1, 2])
        self.check([6, 5, 1], [2, 3, 4])
        self.check([6, 1, 3], [2, 3, 4])
        self.check([30, 29, 27, 23, 14], [2, 15, 16])
        self.check([30, 28, 24, 16, 0], [5, 1, 2, 4, 8, 16])

    def test_a_ring_of_three(self):
        self.check([2, 4, 1], [3, 1, 2, 4])
        self.check([4, 1, 2], [3, 1, 2, 4])
        self.check([2, 4, 1, 16, 8], [4, 24, 1, 2, 4])

    def test_of_as_many_the_lesser_number(self):
        self.check([2, 5, 2], [2, 3, 4])
        self.check([4, 4, 3], [2, 5, 2])
        self.check([10, 5, 10, 5], [2, 3, 12])
        self.check([8, 4, 2, 1], [2, 6, 9])
        self.check([6, 5, 27, 20, 12], [2, 7, 24])
        self.check([18, 5, 10, 20, 9], [3, 3, 12, 16])

    def test_the_lesser_number_is_not_the_set_that_begins_first(self):
        # {0, 4} counts 17, {2, 3} counts 12.
        self.check([16, 0, 8, 4, 1], [3, 12, 17, 2])
        # {0, 3, 4} counts 25, {1, 2, 3} counts 14.
        self.check([24, 12, 10, 23, 9], [2, 14, 17])

    def test_the_greatest_set_is_not_the_greatest_number(self):
        self.check([6, 5, 3, 16, 8], [2, 7, 24])
        self.check([2, 1, 24, 20, 12], [2, 28, 3])
        self.check([0, 0, 0, 16, 8], [4, 24, 1, 2, 4])

    def test_a_set_of_one(self):
        self.check([0, 4, 2], [2, 6, 1])
        self.check([4, 0, 1], [2, 5, 2])
        self.check([2, 1, 0], [2, 3, 4])
        self.check([30, 13, 11, 7, 1], [2, 15, 16])

    def test_those_who_are_left_are_peeled_without_those_taken_off(self):
        self.check([14, 5, 3, 1], [2, 7, 8])
        self.check([2, 5, 10, 20, 8], [3, 3, 12, 16])

    def test_all_friends_of_up_to_four_hold_as_told(self):
        for n in range(1, 5):
            for friends in all_friends(n):
                found, *sets = people.peeled(n, friends)
                self.assertEqual(found, len(sets), friends)
                standing = sorted(i for s in sets for i in people_of(s))
                self.assertEqual(standing, list(range(n)), friends)
                self.assertTrue(all(are_close(friends, people_of(s)) for s in sets), friends)
                sizes = [len(people_of(s)) for s in sets]
                self.assertEqual(sizes, sorted(sizes, reverse=True), friends)
                self.assertGreater(sizes[-1], 0, friends)

    def test_all_friends_of_up_to_four_as_peeled_by_hand(self):
        for n in range(1, 5):
            for friends in all_friends(n):
                sets = peel_by_hand(friends)
                self.assertEqual(people.peeled(n, friends), [len(sets)] + sets, friends)

    def test_all_friends_of_five_where_friends_go_both_ways(self):
        pairs = list(itertools.combinations(range(5), 2))
        for chosen in itertools.product([False, True], repeat=len(pairs)):
            friends = [0] * 5
            for taken, (i, j) in zip(chosen, pairs):
                if taken:
                    friends[i] += 2 ** j
                    friends[j] += 2 ** i
            sets = peel_by_hand(friends)
            self.assertEqual(people.peeled(5, friends), [len(sets)] + sets, friends)

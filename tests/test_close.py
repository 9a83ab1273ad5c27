"""close: 1 if a set is close, else 0, then the greatest close set within it."""

import itertools
import unittest

from ringsheld import people
from tests.cases import GREATEST, Asked, Untouched, all_friends, all_refusals, are_close, number_of, some_friends
from tests.cases import people as people_of


def close_by_hand(friends, s):
    """The answer, by trying the sets within s from the greatest down; the empty one comes last."""
    members = people_of(s)
    for many in range(len(members), -1, -1):
        within = [number_of(those) for those in itertools.combinations(members, many) if are_close(friends, those)]
        if within:
            return [1 if many == len(members) else 0, min(within)]


class EmptySetAsked(Asked, unittest.TestCase):
    def ask(self, n, friends):
        return people.close(n, 0, friends)


class AllPeopleAsked(Asked, unittest.TestCase):
    def ask(self, n, friends):
        return people.close(n, 2 ** min(n, 7) - 1, friends)


class Refusals(unittest.TestCase):
    def check(self, n, s, friends):
        with self.subTest(n=n, s=s, friends=friends):
            handed = Untouched(friends)
            self.assertEqual(people.close(n, s, handed), [-22])
            self.assertEqual(handed, friends)

    def test_s_is_no_set_of_people(self):
        for n in range(1, 6):
            for friends in some_friends(n):
                for s in (2 ** n, 2 ** n + 1, 2 ** (n + 1) - 1, 2 ** (n + 1), 256, 2147483648, GREATEST - 1, GREATEST):
                    self.check(n, s, friends)

    def test_n_or_friends_whatever_the_set(self):
        for why, n, friends in all_refusals():
            for s in (0, 1, 2, 2 ** min(n, 7) - 1, 2 ** min(n, 7), GREATEST):
                self.check(n, s, friends)

    def test_refused_just_where_s_is_no_set_of_people(self):
        for n in range(1, 6):
            for friends in some_friends(n):
                for s in range(80):
                    refused = people.close(n, s, friends) == [-22]
                    self.assertEqual(refused, s >= 2 ** n, (n, s, friends))


class Close(unittest.TestCase):
    def check(self, friends, answers):
        """The answers, each behind its set."""
        for s, answer in answers.items():
            with self.subTest(s=s, friends=friends):
                handed = Untouched(friends)
                self.assertEqual(people.close(len(friends), s, handed), answer)
                self.assertEqual(handed, friends)

    def test_one_person(self):
        self.check([0], {0: [1, 0], 1: [1, 1]})

    def test_the_empty_set(self):
        for n in range(1, 6):
            for friends in some_friends(n):
                self.check(friends, {0: [1, 0]})

    def test_a_set_of_one(self):
        for n in range(1, 6):
            for friends in some_friends(n):
                self.check(friends, {2 ** i: [1, 2 ** i] for i in range(n)})

    def test_nobody_has_friends(self):
        self.check([0, 0], {3: [0, 1]})
        self.check([0, 0, 0], {3: [0, 1], 5: [0, 1], 6: [0, 2], 7: [0, 1]})
        self.check([0] * 4, {12: [0, 4], 15: [0, 1]})
        self.check([0] * 5, {24: [0, 8], 30: [0, 2], 31: [0, 1]})

    def test_all_are_friends(self):
        for n in range(1, 6):
            self.check([2 ** n - 1 - 2 ** i for i in range(n)], {s: [1, s] for s in range(2 ** n)})

    def test_a_friend_who_is_not_ones_friend(self):
        self.check([2, 0], {3: [0, 1]})
        self.check([0, 1], {3: [0, 1]})
        self.check([6, 1, 0], {3: [1, 3], 5: [0, 1], 6: [0, 2], 7: [0, 3]})
        self.check([30, 28, 24, 16, 0], {3: [0, 1], 24: [0, 8], 31: [0, 1]})
        self.check([30, 29, 27, 23, 14], {15: [1, 15], 17: [0, 1], 30: [1, 30], 31: [0, 15]})

    def test_a_ring_of_three(self):
        self.check([2, 4, 1], {3: [0, 1], 5: [0, 1], 6: [0, 2], 7: [0, 1]})
        self.check([4, 1, 2], {3: [0, 1], 5: [0, 1], 6: [0, 2], 7: [0, 1]})
        self.check([2, 4, 1, 16, 8], {7: [0, 1], 15: [0, 1], 24: [1, 24], 28: [0, 24], 31: [0, 24]})

    def test_two_greatest_sets_as_great(self):
        self.check([2, 5, 2], {7: [0, 3], 5: [0, 1], 6: [1, 6]})
        self.check([4, 4, 3], {7: [0, 5], 6: [1, 6], 3: [0, 1]})
        self.check([10, 5, 10, 5], {15: [0, 3], 14: [0, 6], 13: [0, 9], 10: [0, 2]})
        self.check([6, 5, 27, 20, 12], {31: [0, 7], 30: [0, 28], 27: [0, 3]})

    def test_the_lesser_number_is_not_the_set_that_begins_first(self):
        # {0, 4} counts 17, {2, 3} counts 12.
        self.check([16, 0, 8, 4, 1], {31: [0, 12], 29: [0, 12], 27: [0, 17]})
        # {0, 3, 4} counts 25, {1, 2, 3} counts 14.
        self.check([24, 12, 10, 23, 9], {31: [0, 14], 29: [0, 25], 25: [1, 25]})

    def test_the_greatest_set_is_not_the_greatest_or_the_least_number(self):
        self.check([6, 5, 3, 16, 8], {31: [0, 7], 30: [0, 6], 26: [0, 24]})
        self.check([2, 1, 24, 20, 12], {31: [0, 28], 27: [0, 3], 28: [1, 28]})

    def test_only_those_of_the_set_count(self):
        self.check([6, 5, 3, 0], {11: [0, 3], 13: [0, 5], 14: [0, 6], 8: [1, 8]})
        self.check([0, 12, 10, 6], {15: [0, 14], 7: [0, 6], 14: [1, 14], 3: [0, 1]})

    def test_all_friends_and_sets_of_up_to_four_as_tried_by_hand(self):
        for n in range(1, 5):
            for friends in all_friends(n):
                self.hold_as_told(n, friends)

    def test_many_friends_and_all_sets_of_five_as_tried_by_hand(self):
        for friends in some_friends(5) + all_friends(5, 1009):
            self.hold_as_told(5, friends)

    def hold_as_told(self, n, friends):
        for s in range(2 ** n):
            self.assertEqual(people.close(n, s, friends), close_by_hand(friends, s), (s, friends))

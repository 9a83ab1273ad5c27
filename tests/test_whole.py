"""The whole program: what holds of all six calls together, and that each answers the same when called again."""

import itertools
import unittest

from ringsheld import people
from tests.cases import GREATEST, Untouched, all_friends, all_groups, all_refusals, number_of, some_friends
from tests.cases import people as people_of


def all_questions(n, friends):
    """Each question that may be asked of these friends, as (call, what it is handed)."""
    yield people.rings, (n, friends)
    yield people.peeled, (n, friends)
    for s in range(2 ** n):
        yield people.close, (n, s, friends)
    for k, w in itertools.product((0, 1), repeat=2):
        yield people.core, (n, k, w, friends)
    for groups in all_groups(n):
        for k in (0, 1):
            yield people.worths, (n, k, friends, groups)
            for w in (0, 1):
                yield people.leavers, (n, k, w, friends, groups)


def all_refused():
    """Questions of each call that are refused, as (call, what it is handed)."""
    for why, n, friends in all_refusals():
        groups = [0] * min(n, 7)
        yield people.rings, (n, friends)
        yield people.peeled, (n, friends)
        yield people.worths, (n, 0, friends, groups)
        yield people.leavers, (n, 0, 0, friends, groups)
        yield people.core, (n, 0, 0, friends)
        yield people.close, (n, 0, friends)
    for friends in some_friends(3):
        for wrong in (2, GREATEST):
            yield people.worths, (3, wrong, friends, [0, 0, 0])
            yield people.leavers, (3, wrong, 0, friends, [0, 0, 0])
            yield people.leavers, (3, 0, wrong, friends, [0, 0, 0])
            yield people.core, (3, wrong, 0, friends)
            yield people.core, (3, 0, wrong, friends)
        for groups in ([0, 0], [0, 0, 3], [0, 0, GREATEST], [0] * 7):
            yield people.worths, (3, 0, friends, groups)
            yield people.leavers, (3, 0, 0, friends, groups)
        for s in (8, GREATEST):
            yield people.close, (3, s, friends)


def untouched(handed):
    return [Untouched(value) if isinstance(value, list) else value for value in handed]


def how_long(call, n, first):
    """How many numbers the interface promises behind the first one."""
    if call is people.close:
        return 1
    if call in (people.peeled, people.leavers):
        return first
    return 0 if call is people.core and first == 0 else n


class Answers(unittest.TestCase):
    def test_each_call_answers_the_same_when_called_again(self):
        asked = [question for n in range(1, 4) for friends in all_friends(n) for question in all_questions(n, friends)]
        asked.extend(all_questions(5, [18, 5, 10, 20, 9]))
        asked.extend(all_refused())
        firsts = [list(call(*handed)) for call, handed in asked]
        for (call, handed), first in reversed(list(zip(asked, firsts))):
            answer = call(*handed)
            self.assertEqual(answer, first, (call.__name__, handed))
            # What is done to an answer must not come back in the next one.
            answer.append(99)
            answer[0] = 99
            self.assertEqual(call(*handed), first, (call.__name__, handed))

    def test_what_is_answered_is_as_long_as_told(self):
        for n in range(1, 6):
            for friends in some_friends(n) + (all_friends(n) if n < 4 else []):
                for call, handed in all_questions(n, friends):
                    first, *rest = call(*untouched(handed))
                    self.assertGreaterEqual(first, 0, (call.__name__, handed))
                    self.assertEqual(len(rest), how_long(call, n, first), (call.__name__, handed))
                    self.assertEqual({type(number) for number in [first] + rest}, {int}, (call.__name__, handed))

    def test_a_refusal_is_its_number_alone(self):
        for call, handed in all_refused():
            with self.subTest(call=call.__name__, handed=handed):
                self.assertEqual(call(*untouched(handed)), [-22])


class WhatHolds(unittest.TestCase):
    def each(self, step):
        """(n, friends), all of up to four people, and of five some and one of each step."""
        for n in range(1, 5):
            for friends in all_friends(n):
                yield n, friends
        for friends in some_friends(5) + all_friends(5, step):
            yield 5, friends

    def test_a_friends_first_nobody_would_leave_the_rings_not_even_weakly(self):
        for n, friends in self.each(1009):
            groups = people.rings(n, friends)[1:]
            for w in (0, 1):
                self.assertEqual(people.leavers(n, 0, w, friends, groups), [0], (w, friends))

    def test_b_foes_first_nobody_would_leave_what_is_peeled(self):
        for n, friends in self.each(1009):
            sets = people.peeled(n, friends)[1:]
            groups = [[i in people_of(s) for s in sets].index(True) for i in range(n)]
            self.assertEqual(people.leavers(n, 1, 0, friends, groups), [0], friends)

    def test_b_all_peeled_are_close_and_each_the_greatest_of_those_left(self):
        for n, friends in self.each(1009):
            left = 2 ** n - 1
            most = n
            for s in people.peeled(n, friends)[1:]:
                self.assertEqual(people.close(n, s, friends), [1, s], friends)
                self.assertEqual(people.close(n, left, friends)[1], s, friends)
                self.assertLessEqual(len(people_of(s)), most, friends)
                most = len(people_of(s))
                left -= s
            self.assertEqual(left, 0, friends)

    def test_c_there_is_always_a_way_that_holds(self):
        for n, friends in self.each(9973):
            for k, w in ((0, 0), (0, 1), (1, 0)):
                found, *groups = people.core(n, k, w, friends)
                self.assertGreater(found, 0, (k, w, friends))
                self.assertEqual(people.leavers(n, k, w, friends, groups), [0], (k, w, friends))

    def test_c_foes_first_one_is_with_friends_alone_where_it_holds(self):
        for n, friends in self.each(9973):
            for w in (0, 1):
                found, *groups = people.core(n, 1, w, friends)
                for number in set(groups):
                    s = number_of(i for i in range(n) if groups[i] == number)
                    self.assertEqual(people.close(n, s, friends), [1, s], (w, friends))

import itertools
import unittest

from handed_in import HandedIn
from meaning import as_first_come, best_by_meaning
from ratherwhere.people import best, go, moves
from samples import FIVE, FOUR, SAMPLES, THREE, many_worths, with_own
from wrong import BEYOND, wrong_inputs


def likes(n, i, row):
    """Worths that tell row of person i, and nothing of the others."""
    return [0] * (n * i) + row + [0] * (n * (n - 1 - i))


class BestTest(unittest.TestCase):
    def assert_for_each(self, n, worth, groups, expected):
        """expected: the whole list for each person."""
        self.assertEqual([best(n, i, worth, groups) for i in range(n)], expected, groups)


class OrdinaryInputs(BestTest):
    def test_two(self):
        self.assert_for_each(2, [0, 7, -4, 0], [0, 0], [[0, 7], [1, 0]])
        self.assert_for_each(2, [0, 7, -4, 0], [0, 1], [[1, 7], [1, 0]])

    def test_three(self):
        self.assert_for_each(3, THREE, [0, 0, 1], [[0, 3], [1, 5], [1, 0]])
        self.assert_for_each(3, THREE, [0, 1, 0], [[1, 3], [0, 7], [0, 4]])
        self.assert_for_each(3, THREE, [0, 1, 1], [[1, 2], [1, 5], [0, 4]])

    def test_four(self):
        self.assert_for_each(4, FOUR, [0, 1, 1, 2], [[1, 3], [0, 5], [1, 4], [1, 3]])
        self.assert_for_each(4, FOUR, [0, 1, 0, 1], [[1, 5], [0, 4], [1, 5], [0, 3]])

    def test_five(self):
        self.assert_for_each(5, FIVE, [0, 0, 1, 1, 2], [[0, 7], [1, 7], [1, 7], [2, 7], [0, 7]])
        self.assert_for_each(5, FIVE, [0, 1, 0, 2, 1], [[1, 5], [0, 5], [2, 7], [1, 7], [0, 7]])


class NamedEdges(BestTest):
    def test_one_person(self):
        for own in (-20, 0, 20):
            self.assert_for_each(1, [own], [0], [[0, 0]])

    def test_all_alone(self):
        self.assert_for_each(3, THREE, [0, 1, 2], [[1, 3], [2, 5], [0, 4]])
        self.assert_for_each(5, FIVE, [0, 1, 2, 3, 4], [[1, 7], [2, 7], [3, 7], [4, 7], [0, 7]])

    def test_all_in_one_group(self):
        self.assert_for_each(3, THREE, [0, 0, 0], [[0, 2], [0, 7], [1, 0]])
        self.assert_for_each(4, FOUR, [0, 0, 0, 0], [[0, 3], [0, 4], [0, 8], [0, 0]])

    def test_groups_told_by_other_numbers(self):
        for groups in ([1, 0, 1], [2, 0, 2], [2, 1, 2], [0, 2, 0], [1, 2, 1]):
            self.assert_for_each(3, THREE, groups, [[1, 3], [0, 7], [0, 4]])
        for groups in ([1, 1, 1], [2, 2, 2]):
            self.assert_for_each(3, THREE, groups, [[0, 2], [0, 7], [1, 0]])
        self.assert_for_each(5, FIVE, [4, 2, 4, 0, 2], [[1, 5], [0, 5], [2, 7], [1, 7], [0, 7]])
        # The least by number is the one that comes first, not the one that is told by the least number.
        self.assertEqual(best(3, 2, likes(3, 2, [4, 4, 0]), [2, 1, 0]), [0, 4])

    def test_alone_already(self):
        for own in (-20, 0, 20):
            self.assert_for_each(2, [own, -5, -5, own], [0, 1], [[0, 0], [1, 0]])
            self.assert_for_each(2, [own, -5, -5, own], [1, 0], [[0, 0], [1, 0]])
        self.assertEqual(best(4, 1, [-1] * 16, [0, 1, 2, 0]), [1, 0])

    def test_worths_all_0(self):
        for n in range(1, 6):
            for told in itertools.product(range(n), repeat=n):
                expected = [[own, 0] for own in as_first_come(told)]
                self.assert_for_each(n, [0] * (n * n), list(told), expected)

    def test_a_person_whom_one_likes_and_who_doesnt(self):
        # Whether one is welcome, or let go, isn't asked.
        self.assert_for_each(2, [0, 1, -1, 0], [0, 1], [[1, 1], [1, 0]])
        self.assert_for_each(2, [0, 1, -1, 0], [0, 0], [[0, 1], [1, 0]])

    def test_ones_own_as_good_as_the_best_of_the_others(self):
        self.assertEqual(best(3, 2, likes(3, 2, [5, 5, 0]), [0, 1, 1]), [1, 5])
        self.assertEqual(best(3, 0, likes(3, 0, [0, 5, 5]), [0, 0, 1]), [0, 5])
        self.assertEqual(best(5, 4, likes(5, 4, [1, 3, 3, 3, 0]), [0, 1, 2, 3, 2]), [2, 3])
        # As good as to be alone, too.
        self.assertEqual(best(4, 3, likes(4, 3, [0, 4, -4, 9]), [0, 1, 1, 1]), [1, 0])

    def test_two_others_that_are_better_and_alike(self):
        self.assertEqual(best(3, 2, likes(3, 2, [4, 4, 0]), [0, 1, 2]), [0, 4])
        self.assertEqual(best(3, 0, likes(3, 0, [0, 4, 4]), [0, 1, 2]), [1, 4])
        self.assertEqual(best(5, 1, likes(5, 1, [2, 0, 1, 6, 6]), [0, 0, 1, 2, 3]), [2, 6])
        # As good as to be alone, which has the last number.
        self.assertEqual(best(3, 0, likes(3, 0, [0, -3, 0]), [0, 0, 1]), [1, 0])

    def test_the_most_of_several_that_are_better(self):
        self.assertEqual(best(4, 0, likes(4, 0, [0, 1, 2, 3]), [0, 1, 2, 3]), [3, 3])
        self.assertEqual(best(4, 0, likes(4, 0, [0, 3, 2, 1]), [0, 1, 2, 3]), [1, 3])
        self.assertEqual(best(4, 0, likes(4, 0, [0, 1, 3, 2]), [0, 1, 2, 3]), [2, 3])

    def test_every_group_is_worth_less_than_nothing(self):
        worth = likes(3, 0, [0, -1, -2])
        self.assertEqual(best(3, 0, worth, [0, 0, 0]), [1, 0])
        self.assertEqual(best(3, 0, worth, [0, 0, 1]), [2, 0])
        self.assertEqual(best(3, 0, worth, [0, 1, 0]), [2, 0])
        self.assertEqual(best(3, 0, worth, [0, 1, 1]), [0, 0])
        self.assertEqual(best(3, 0, worth, [0, 1, 2]), [0, 0])

    def test_the_least_and_the_most_worth(self):
        self.assertEqual(best(5, 4, [20] * 25, [0, 0, 0, 0, 1]), [0, 80])
        self.assertEqual(best(5, 4, [20] * 25, [0, 0, 0, 0, 0]), [0, 80])
        self.assertEqual(best(5, 4, [-20] * 25, [0, 0, 0, 0, 1]), [1, 0])
        self.assertEqual(best(5, 4, [-20] * 25, [0, 0, 0, 0, 0]), [1, 0])

    def test_what_one_is_worth_to_oneself_means_nothing(self):
        for n, worth in SAMPLES:
            for own in (-20, -1, 1, 20):
                for told in itertools.product(range(n), repeat=n):
                    expected = [best(n, i, worth, list(told)) for i in range(n)]
                    self.assert_for_each(n, with_own(n, worth, own), list(told), expected)


class OverManyInputs(BestTest):
    def each_input(self):
        """Of each: n, worth, groups."""
        for n, how_many in ((1, 2), (2, 15), (3, 15), (4, 4)):
            for most in (1, 3, 20):
                for worth in many_worths(n, most, how_many):
                    for told in itertools.product(range(n), repeat=n):
                        yield n, worth, list(told)
        for worth in (FIVE, many_worths(5, 1, 1)[0]):
            for told in itertools.product(range(5), repeat=5):
                yield 5, worth, list(told)

    def test_by_meaning(self):
        for n, worth, groups in self.each_input():
            expected = [best_by_meaning(n, i, worth, groups) for i in range(n)]
            self.assert_for_each(n, worth, groups, expected)

    def test_where_one_would_have_most_nobodyd_rather_go_elsewhere(self):
        for n, worth, groups in self.each_input():
            for i in range(n):
                where, has = best(n, i, worth, groups)
                answer = go(n, i, where, worth, groups)
                there, has_there = answer[1:1 + n], answer[-1]
                self.assertEqual(has_there, has)
                elsewhere = [go(n, i, k, worth, there)[0] for k in range(len(set(there)) + 1)]
                self.assertEqual(elsewhere, [0] * len(elsewhere), (n, i, worth, groups))
                self.assertNotIn(i, moves(n, 0, worth, there)[1::2], (n, i, worth, groups))
                self.assertEqual(best(n, i, worth, there), [there[i], has])

    def test_best_is_a_move_or_ones_own(self):
        for n, worth, groups in self.each_input():
            found = moves(n, 0, worth, groups)
            for i in range(n):
                where = best(n, i, worth, groups)[0]
                may_go = [k for who, k in zip(found[1::2], found[2::2]) if who == i]
                if may_go:
                    self.assertIn(where, may_go, (n, i, worth, groups))
                    self.assertEqual(go(n, i, where, worth, groups)[0], 1)
                else:
                    self.assertEqual(where, as_first_come(groups)[i], (n, i, worth, groups))

    def test_never_less_than_alone(self):
        for n, worth, groups in self.each_input():
            for i in range(n):
                self.assertGreaterEqual(best(n, i, worth, groups)[1], 0)


class WrongInputs(unittest.TestCase):
    def test_n_worth_and_groups(self):
        for what, n, worth, groups in wrong_inputs():
            with self.subTest(what):
                self.assertEqual(best(n, 0, worth, groups), [-22])

    def test_ahead_of_no_such_person(self):
        for what, n, worth, groups in wrong_inputs():
            for i in (n, 5, BEYOND):
                with self.subTest(what, i=i):
                    self.assertEqual(best(n, i, worth, groups), [-22])

    def test_no_such_person(self):
        for n, worth in SAMPLES:
            for told in itertools.product(range(n), repeat=n):
                for i in (n, n + 1, BEYOND):
                    self.assertEqual(best(n, i, worth, list(told)), [-2])


class WhatIsHandedIn(unittest.TestCase):
    def test_unchanged(self):
        for told in itertools.product(range(4), repeat=3):
            for i in range(4):
                worth, groups = HandedIn(THREE), HandedIn(told)
                best(3, i, worth, groups)
                self.assertEqual((worth, groups), (THREE, list(told)))

    def test_unchanged_where_refused(self):
        for what, n, worth, groups in wrong_inputs():
            with self.subTest(what):
                worth_in, groups_in = HandedIn(worth), HandedIn(groups)
                best(n, 0, worth_in, groups_in)
                self.assertEqual((worth_in, groups_in), (worth, groups))


class WhatIsAnswered(unittest.TestCase):
    def test_a_list_of_whole_numbers(self):
        for answer in (best(3, 0, THREE, [2, 0, 2]), best(1, 0, [0], [0]), best(3, 3, THREE, [2, 0, 2]),
                       best(0, 0, [], [])):
            self.assertIs(type(answer), list)
            self.assertEqual([type(number) for number in answer], [int] * len(answer))

    def test_nothing_is_kept_between_calls(self):
        for i in range(4):
            first = best(3, i, THREE, [2, 0, 2])
            expected = list(first)
            first.append(99)
            first[0] = 99
            self.assertEqual(best(3, i, THREE, [2, 0, 2]), expected)


if __name__ == "__main__":
    unittest.main()

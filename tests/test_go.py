import itertools
import unittest

from handed_in import HandedIn
from meaning import as_first_come, go_by_meaning
from ratherwhere.people import go, worths
from samples import FIVE, FOUR, SAMPLES, THREE, many_worths, with_own
from wrong import BEYOND, wrong_inputs


class GoTest(unittest.TestCase):
    def assert_everywhere(self, n, worth, groups, expected):
        """expected: for each person the whole list at each group, and then alone."""
        for i in range(n):
            for k, answer in enumerate(expected[i]):
                self.assertEqual(go(n, i, k, worth, groups), answer, (i, k, groups))
            self.assertEqual(go(n, i, len(expected[i]), worth, groups), [-2])


class OrdinaryInputs(GoTest):
    def test_two(self):
        self.assert_everywhere(2, [0, 7, -4, 0], [0, 0], [
            [[0, 0, 0, 7], [0, 0, 1, 0]],
            [[0, 0, 0, -4], [1, 0, 1, 0]],
        ])
        self.assert_everywhere(2, [0, 7, -4, 0], [0, 1], [
            [[0, 0, 1, 0], [1, 0, 0, 7], [0, 0, 1, 0]],
            [[0, 0, 0, -4], [0, 0, 1, 0], [0, 0, 1, 0]],
        ])

    def test_three(self):
        self.assert_everywhere(3, THREE, [0, 0, 1], [
            [[0, 0, 0, 1, 3], [0, 0, 1, 0, -1], [0, 0, 1, 2, 0]],
            [[0, 0, 0, 1, 2], [1, 0, 1, 1, 5], [0, 0, 1, 2, 0]],
            [[0, 0, 0, 0, -2], [0, 0, 0, 1, 0], [0, 0, 0, 1, 0]],
        ])
        self.assert_everywhere(3, THREE, [0, 1, 0], [
            [[0, 0, 1, 0, -1], [1, 0, 0, 1, 3], [1, 0, 1, 2, 0]],
            [[1, 0, 0, 0, 7], [0, 0, 1, 0, 0], [0, 0, 1, 0, 0]],
            [[0, 0, 1, 0, 4], [0, 0, 1, 1, -6], [0, 0, 1, 2, 0]],
        ])

    def test_four(self):
        self.assert_everywhere(4, FOUR, [0, 1, 1, 2], [
            [[0, 0, 1, 1, 2, 0], [1, 0, 0, 0, 1, 3], [0, 0, 1, 1, 0, 0], [0, 0, 1, 1, 2, 0]],
            [[1, 0, 0, 1, 2, 5], [0, 0, 1, 1, 2, -1], [1, 0, 1, 2, 1, 0], [1, 0, 1, 2, 3, 0]],
            [[0, 0, 1, 0, 2, 3], [0, 0, 1, 1, 2, 4], [0, 0, 1, 2, 2, 1], [0, 0, 1, 2, 3, 0]],
            [[0, 0, 1, 1, 0, -3], [1, 0, 1, 1, 1, 3], [0, 0, 1, 1, 2, 0], [0, 0, 1, 1, 2, 0]],
        ])

    def test_five(self):
        self.assert_everywhere(5, FIVE, [0, 0, 1, 1, 2], [
            [[0, 0, 0, 1, 1, 2, 7], [0, 0, 1, 0, 0, 2, 0], [0, 0, 1, 2, 2, 0, -2], [0, 0, 1, 2, 2, 3, 0]],
            [[0, 0, 0, 1, 1, 2, -2], [1, 0, 1, 1, 1, 2, 7], [1, 0, 1, 2, 2, 1, 0], [1, 0, 1, 2, 2, 3, 0]],
            [[0, 0, 0, 0, 1, 2, -2], [0, 0, 0, 1, 1, 2, 7], [0, 0, 0, 1, 2, 1, 0], [0, 0, 0, 1, 2, 3, 0]],
            [[1, 0, 0, 1, 0, 2, 0], [0, 0, 0, 1, 1, 2, -2], [1, 0, 0, 1, 2, 2, 7], [1, 0, 0, 1, 2, 3, 0]],
            [[1, 0, 0, 1, 1, 0, 7], [0, 0, 0, 1, 1, 1, -2], [0, 0, 0, 1, 1, 2, 0], [0, 0, 0, 1, 1, 2, 0]],
        ])


class NamedEdges(GoTest):
    def test_one_person(self):
        for own in (-20, 0, 20):
            self.assert_everywhere(1, [own], [0], [[[0, 0, 0], [0, 0, 0]]])

    def test_all_alone(self):
        self.assert_everywhere(3, THREE, [0, 1, 2], [
            [[0, 0, 1, 2, 0], [1, 0, 0, 1, 3], [0, 0, 1, 0, -1], [0, 0, 1, 2, 0]],
            [[1, 0, 0, 1, 2], [0, 0, 1, 2, 0], [1, 0, 1, 1, 5], [0, 0, 1, 2, 0]],
            [[1, 0, 1, 0, 4], [0, 0, 1, 1, -6], [0, 0, 1, 2, 0], [0, 0, 1, 2, 0]],
        ])

    def test_all_in_one_group(self):
        self.assert_everywhere(3, THREE, [0, 0, 0], [
            [[0, 0, 0, 0, 2], [0, 0, 1, 1, 0]],
            [[0, 0, 0, 0, 7], [0, 0, 1, 0, 0]],
            [[0, 0, 0, 0, -2], [1, 0, 0, 1, 0]],
        ])

    def test_groups_told_by_other_numbers(self):
        for groups in ([1, 0, 1], [2, 0, 2], [2, 1, 2], [0, 2, 0], [1, 2, 1]):
            self.assert_everywhere(3, THREE, groups, [
                [[0, 0, 1, 0, -1], [1, 0, 0, 1, 3], [1, 0, 1, 2, 0]],
                [[1, 0, 0, 0, 7], [0, 0, 1, 0, 0], [0, 0, 1, 0, 0]],
                [[0, 0, 1, 0, 4], [0, 0, 1, 1, -6], [0, 0, 1, 2, 0]],
            ])
        for groups in ([1, 1, 1], [2, 2, 2]):
            self.assert_everywhere(3, THREE, groups, [
                [[0, 0, 0, 0, 2], [0, 0, 1, 1, 0]],
                [[0, 0, 0, 0, 7], [0, 0, 1, 0, 0]],
                [[0, 0, 0, 0, -2], [1, 0, 0, 1, 0]],
            ])

    def test_ones_own_group_changes_nothing(self):
        for n, worth in SAMPLES:
            for told in itertools.product(range(n), repeat=n):
                groups = as_first_come(told)
                has = worths(n, worth, list(told))[1 + n:]
                for i in range(n):
                    self.assertEqual(go(n, i, groups[i], worth, list(told)), [0] + groups + [has[i]])

    def test_to_be_alone(self):
        self.assertEqual(go(3, 0, 1, THREE, [0, 0, 0]), [0, 0, 1, 1, 0])
        self.assertEqual(go(2, 0, 1, [0, -1, 5, 0], [0, 0]), [1, 0, 1, 0])
        self.assertEqual(go(4, 2, 2, FOUR, [0, 1, 0, 1]), [0, 0, 1, 2, 1, 0])
        self.assertEqual(go(4, 3, 2, FOUR, [0, 1, 0, 1]), [1, 0, 1, 0, 2, 0])
        # Nothing lost and nothing won: one wouldn't rather.
        self.assertEqual(go(3, 0, 1, [0, 4, -4, 0, 0, 0, 0, 0, 0], [0, 0, 0]), [0, 0, 1, 1, 0])

    def test_alone_already(self):
        for own in (-20, 0, 20):
            for i in (0, 1):
                for k in (i, 2):
                    self.assertEqual(go(2, i, k, [own, -5, 5, own], [0, 1]), [0, 0, 1, 0])
        self.assertEqual(go(4, 1, 3, FOUR, [0, 1, 0, 2]), [0, 0, 1, 0, 2, 0])

    def test_worths_all_0(self):
        for n in range(1, 6):
            for told in itertools.product(range(n), repeat=n):
                for i, k in itertools.product(range(n), range(len(set(told)) + 1)):
                    answer = go(n, i, k, [0] * (n * n), list(told))
                    self.assertEqual((answer[0], answer[-1]), (0, 0))

    def test_the_least_and_the_most_worth(self):
        self.assertEqual(go(5, 4, 0, [20] * 25, [0, 0, 0, 0, 1]), [1, 0, 0, 0, 0, 0, 80])
        self.assertEqual(go(5, 4, 0, [-20] * 25, [0, 0, 0, 0, 1]), [0, 0, 0, 0, 0, 0, -80])
        self.assertEqual(go(5, 4, 1, [-20] * 25, [0, 0, 0, 0, 0]), [1, 0, 0, 0, 0, 1, 0])

    def test_a_person_whom_one_likes_and_who_doesnt(self):
        # Whether one is welcome, or let go, isn't asked.
        self.assertEqual(go(2, 0, 1, [0, 1, -1, 0], [0, 1]), [1, 0, 0, 1])
        self.assertEqual(go(2, 1, 0, [0, 1, -1, 0], [0, 1]), [0, 0, 0, -1])
        self.assertEqual(go(2, 1, 1, [0, 1, -1, 0], [0, 0]), [1, 0, 1, 0])
        self.assertEqual(go(2, 0, 1, [0, 1, -1, 0], [0, 0]), [0, 0, 1, 0])

    def test_somebody_whod_rather_not_and_goes_all_the_same(self):
        self.assertEqual(go(3, 0, 1, THREE, [0, 0, 1]), [0, 0, 1, 0, -1])
        self.assertEqual(go(3, 2, 1, THREE, [0, 1, 0]), [0, 0, 1, 1, -6])
        # As much there as here is not more.
        self.assertEqual(go(3, 0, 1, [0, 3, 3, 0, 0, 0, 0, 0, 0], [0, 0, 1]), [0, 0, 1, 0, 3])
        self.assertEqual(go(3, 0, 1, [0, 3, 4, 0, 0, 0, 0, 0, 0], [0, 0, 1]), [1, 0, 1, 0, 4])

    def test_numbered_anew_once_person_0_left(self):
        self.assertEqual(go(4, 0, 1, FOUR, [0, 0, 1, 1]), [0, 0, 1, 0, 0, -2])
        self.assertEqual(go(4, 0, 2, FOUR, [0, 0, 1, 1]), [0, 0, 1, 2, 2, 0])
        self.assertEqual(go(5, 0, 3, FIVE, [0, 1, 2, 0, 0]), [1, 0, 1, 2, 3, 3, 0])

    def test_numbered_anew_once_a_group_is_empty(self):
        self.assertEqual(go(4, 0, 2, FOUR, [0, 1, 2, 3]), [0, 0, 1, 0, 2, -2])
        self.assertEqual(go(4, 1, 3, FOUR, [0, 1, 2, 3]), [0, 0, 1, 2, 1, 0])
        self.assertEqual(go(4, 1, 0, FOUR, [0, 1, 2, 2]), [1, 0, 0, 1, 1, 5])
        self.assertEqual(go(5, 0, 3, FIVE, [0, 1, 2, 3, 1]), [0, 0, 1, 2, 0, 1, 0])

    def test_numbered_anew_once_the_first_of_a_group_left(self):
        self.assertEqual(go(5, 1, 2, FIVE, [0, 1, 2, 1, 1]), [1, 0, 1, 1, 2, 2, 7])
        self.assertEqual(go(5, 1, 3, FIVE, [0, 1, 2, 1, 1]), [0, 0, 1, 2, 3, 3, 0])

    def test_what_they_have_then_below_0(self):
        self.assertEqual(go(3, 2, 0, THREE, [0, 0, 1]), [0, 0, 0, 0, -2])
        # They'd rather, and have less than nothing all the same.
        self.assertEqual(go(3, 0, 1, [0, -9, -2, 0, 0, 0, 0, 0, 0], [0, 0, 1]), [1, 0, 1, 0, -2])

    def test_what_one_is_worth_to_oneself_means_nothing(self):
        for n, worth in SAMPLES[:4]:
            for own in (-20, -1, 1, 20):
                for told in itertools.product(range(n), repeat=n):
                    for i, k in itertools.product(range(n), range(len(set(told)) + 1)):
                        answer = go(n, i, k, with_own(n, worth, own), list(told))
                        self.assertEqual(answer, go(n, i, k, worth, list(told)))


class ByMeaning(unittest.TestCase):
    def assert_in_all_groups(self, n, worth):
        for told in itertools.product(range(n), repeat=n):
            for i, k in itertools.product(range(n), range(len(set(told)) + 1)):
                groups = list(told)
                self.assertEqual(go(n, i, k, worth, groups), go_by_meaning(n, i, k, worth, groups), (i, k, groups))

    def test_samples(self):
        for n, worth in SAMPLES:
            self.assert_in_all_groups(n, worth)

    def test_many_worths(self):
        for n, how_many in ((1, 3), (2, 20), (3, 20), (4, 4)):
            for most in (1, 3, 20):
                for worth in many_worths(n, most, how_many):
                    self.assert_in_all_groups(n, worth)


class WrongInputs(unittest.TestCase):
    def test_n_worth_and_groups(self):
        for what, n, worth, groups in wrong_inputs():
            with self.subTest(what):
                self.assertEqual(go(n, 0, 0, worth, groups), [-22])

    def test_ahead_of_no_such_person_and_no_such_group(self):
        for what, n, worth, groups in wrong_inputs():
            for i, k in ((n, 0), (BEYOND, 0), (0, 6), (0, BEYOND), (n, 6), (BEYOND, BEYOND)):
                with self.subTest(what, i=i, k=k):
                    self.assertEqual(go(n, i, k, worth, groups), [-22])

    def test_no_such_person(self):
        for n, worth in SAMPLES:
            for told in itertools.product(range(n), repeat=n):
                for i in (n, n + 1, BEYOND):
                    self.assertEqual(go(n, i, 0, worth, list(told)), [-2])

    def test_no_such_group(self):
        for n, worth in SAMPLES:
            for told in itertools.product(range(n), repeat=n):
                behind = len(set(told)) + 1
                for i, k in itertools.product(range(n), (behind, behind + 1, BEYOND)):
                    self.assertEqual(go(n, i, k, worth, list(told)), [-2])

    def test_neither_such_a_person_nor_such_a_group(self):
        for n, worth in SAMPLES:
            for i, k in itertools.product((n, BEYOND), (n + 1, BEYOND)):
                self.assertEqual(go(n, i, k, worth, list(range(n))), [-2])


class WhatIsHandedIn(unittest.TestCase):
    def test_unchanged(self):
        for told in itertools.product(range(4), repeat=3):
            for i, k in itertools.product(range(4), range(5)):
                worth, groups = HandedIn(THREE), HandedIn(told)
                go(3, i, k, worth, groups)
                self.assertEqual((worth, groups), (THREE, list(told)))

    def test_unchanged_where_refused(self):
        for what, n, worth, groups in wrong_inputs():
            with self.subTest(what):
                worth_in, groups_in = HandedIn(worth), HandedIn(groups)
                go(n, 0, 0, worth_in, groups_in)
                self.assertEqual((worth_in, groups_in), (worth, groups))


class WhatIsAnswered(unittest.TestCase):
    def test_a_list_of_whole_numbers(self):
        for i, k in ((0, 0), (0, 1), (1, 0), (2, 2), (3, 0), (0, 3)):
            answer = go(3, i, k, THREE, [2, 0, 2])
            self.assertIs(type(answer), list)
            self.assertEqual([type(number) for number in answer], [int] * len(answer))
        self.assertIs(type(go(0, 0, 0, [], [])[0]), int)

    def test_nothing_is_kept_between_calls(self):
        for i, k in ((0, 1), (2, 2), (3, 0)):
            first = go(3, i, k, THREE, [2, 0, 2])
            expected = list(first)
            first.append(99)
            first[0] = 99
            self.assertEqual(go(3, i, k, THREE, [2, 0, 2]), expected)


if __name__ == "__main__":
    unittest.main()

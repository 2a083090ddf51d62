import itertools
import unittest

from handed_in import HandedIn
from ratherwhere.people import worths
from wrong import wrong_inputs

THREE = [0, 3, -1,
         2, 0, 5,
         4, -6, 0]
FOUR = [0, 1, 2, 3,
        4, 0, 5, 6,
        7, 8, 0, 9,
        -10, -11, -12, 0]
FIVE = [0, 1, 2, 4, 8,
        16, 0, 1, 2, 4,
        -1, -2, 0, -4, -8,
        10, 11, 12, 0, 13,
        20, -20, 20, -20, 0]


class OrdinaryInputs(unittest.TestCase):
    def test_two(self):
        self.assertEqual(worths(2, [0, 7, -4, 0], [0, 0]), [1, 0, 0, 7, -4])
        self.assertEqual(worths(2, [0, 7, -4, 0], [0, 1]), [2, 0, 1, 0, 0])

    def test_three(self):
        self.assertEqual(worths(3, THREE, [0, 0, 1]), [2, 0, 0, 1, 3, 2, 0])
        self.assertEqual(worths(3, THREE, [0, 1, 0]), [2, 0, 1, 0, -1, 0, 4])
        self.assertEqual(worths(3, THREE, [0, 1, 1]), [2, 0, 1, 1, 0, 5, -6])

    def test_four(self):
        self.assertEqual(worths(4, FOUR, [0, 1, 0, 1]), [2, 0, 1, 0, 1, 2, 6, 7, -11])
        self.assertEqual(worths(4, FOUR, [0, 1, 1, 2]), [3, 0, 1, 1, 2, 0, 5, 8, 0])
        self.assertEqual(worths(4, FOUR, [0, 0, 1, 0]), [2, 0, 0, 1, 0, 4, 10, 0, -21])

    def test_five(self):
        self.assertEqual(worths(5, FIVE, [0, 1, 0, 1, 0]), [2, 0, 1, 0, 1, 0, 10, 2, -9, 11, 40])
        self.assertEqual(worths(5, FIVE, [0, 1, 2, 1, 3]), [4, 0, 1, 2, 1, 3, 0, 2, 0, 11, 0])


class NamedEdges(unittest.TestCase):
    def test_one_person(self):
        for own in (-20, 0, 20):
            self.assertEqual(worths(1, [own], [0]), [1, 0, 0])

    def test_all_alone(self):
        self.assertEqual(worths(3, THREE, [0, 1, 2]), [3, 0, 1, 2, 0, 0, 0])
        self.assertEqual(worths(5, FIVE, [0, 1, 2, 3, 4]), [5, 0, 1, 2, 3, 4, 0, 0, 0, 0, 0])

    def test_all_in_one_group(self):
        self.assertEqual(worths(3, THREE, [0, 0, 0]), [1, 0, 0, 0, 2, 7, -2])
        self.assertEqual(worths(4, FOUR, [0, 0, 0, 0]), [1, 0, 0, 0, 0, 6, 15, 24, -33])
        self.assertEqual(worths(5, FIVE, [0, 0, 0, 0, 0]), [1, 0, 0, 0, 0, 0, 15, 23, -15, 46, 0])

    def test_groups_told_by_other_numbers(self):
        self.assertEqual(worths(2, [0, 7, -4, 0], [1, 1]), [1, 0, 0, 7, -4])
        self.assertEqual(worths(2, [0, 7, -4, 0], [1, 0]), [2, 0, 1, 0, 0])
        self.assertEqual(worths(3, THREE, [2, 0, 2]), [2, 0, 1, 0, -1, 0, 4])
        self.assertEqual(worths(3, THREE, [2, 1, 0]), [3, 0, 1, 2, 0, 0, 0])
        self.assertEqual(worths(4, FOUR, [0, 3, 3, 1]), [3, 0, 1, 1, 2, 0, 5, 8, 0])
        self.assertEqual(worths(5, FIVE, [4, 2, 4, 2, 4]), [2, 0, 1, 0, 1, 0, 10, 2, -9, 11, 40])

    def test_worths_all_0(self):
        for n in range(1, 6):
            self.assertEqual(worths(n, [0] * (n * n), [0] * n), [1] + [0] * n + [0] * n)
            self.assertEqual(worths(n, [0] * (n * n), list(range(n))), [n] + list(range(n)) + [0] * n)

    def test_the_least_and_the_most_worth(self):
        for n in range(1, 6):
            for value in (-20, 20):
                together = worths(n, [value] * (n * n), [0] * n)
                self.assertEqual(together, [1] + [0] * n + [value * (n - 1)] * n)

    def test_what_one_is_worth_to_oneself_means_nothing(self):
        for own in (-20, -1, 1, 20):
            worth = list(THREE)
            for i in range(3):
                worth[4 * i] = own
            for groups in itertools.product(range(3), repeat=3):
                self.assertEqual(worths(3, worth, list(groups)), worths(3, THREE, list(groups)))


class EveryWayToTellGroups(unittest.TestCase):
    def test_each_part_by_its_meaning(self):
        for n, worth in ((1, [9]), (2, [0, 7, -4, 0]), (3, THREE), (4, FOUR), (5, FIVE)):
            for told in itertools.product(range(n), repeat=n):
                answer = worths(n, worth, list(told))
                first_come = list(dict.fromkeys(told))
                groups = [first_come.index(number) for number in told]
                has = [sum(worth[i * n + j] for j in range(n) if told[j] == told[i] and j != i) for i in range(n)]
                self.assertEqual(answer, [len(first_come)] + groups + has, (n, told))


class WrongInputs(unittest.TestCase):
    def test_refused(self):
        for what, n, worth, groups in wrong_inputs():
            with self.subTest(what):
                self.assertEqual(worths(n, worth, groups), [-22])


class WhatIsHandedIn(unittest.TestCase):
    def test_unchanged(self):
        for groups in itertools.product(range(4), repeat=3):
            worth = HandedIn(THREE)
            told = HandedIn(groups)
            worths(3, worth, told)
            self.assertEqual(worth, THREE)
            self.assertEqual(told, list(groups))

    def test_unchanged_where_refused(self):
        for what, n, worth, groups in wrong_inputs():
            with self.subTest(what):
                worth_in, groups_in = HandedIn(worth), HandedIn(groups)
                worths(n, worth_in, groups_in)
                self.assertEqual((worth_in, groups_in), (worth, groups))


class WhatIsAnswered(unittest.TestCase):
    def test_a_list_of_whole_numbers(self):
        for answer in (worths(3, THREE, [2, 0, 2]), worths(1, [0], [0]), worths(0, [], [])):
            self.assertIs(type(answer), list)
            self.assertEqual([type(number) for number in answer], [int] * len(answer))

    def test_nothing_is_kept_between_calls(self):
        for n, worth, groups in ((3, THREE, [2, 0, 2]), (0, [], [])):
            first = worths(n, worth, groups)
            expected = list(first)
            first.append(99)
            first[0] = 99
            self.assertEqual(worths(n, worth, groups), expected)


if __name__ == "__main__":
    unittest.main()

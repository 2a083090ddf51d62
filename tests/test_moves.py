import itertools
import unittest

from handed_in import HandedIn
from meaning import WAYS, moves_by_meaning
from ratherwhere.people import moves
from samples import FIVE, FOUR, THREE, with_own
from wrong import BEYOND, wrong_inputs


class MovesTest(unittest.TestCase):
    def assert_by_ways(self, n, worth, groups, expected):
        """expected: the whole list by each of the ways 0, 1 and 2."""
        self.assertEqual([moves(n, w, worth, groups) for w in WAYS], expected)


class OrdinaryInputs(MovesTest):
    def test_two(self):
        self.assert_by_ways(2, [0, 7, 4, 0], [0, 1], [[2, 0, 1, 1, 0]] * 3)
        self.assert_by_ways(2, [0, 7, 4, 0], [0, 0], [[0]] * 3)
        self.assert_by_ways(2, [0, -7, -4, 0], [0, 0], [[2, 0, 1, 1, 1]] * 3)

    def test_three(self):
        self.assert_by_ways(3, THREE, [0, 0, 1], [[1, 1, 1], [0], [0]])
        self.assert_by_ways(3, THREE, [0, 1, 0], [[3, 0, 1, 0, 2, 1, 0], [2, 0, 1, 0, 2], [0]])
        self.assert_by_ways(3, THREE, [0, 1, 1], [[3, 0, 1, 2, 0, 2, 2], [2, 0, 1, 2, 2], [1, 0, 1]])

    def test_four(self):
        self.assert_by_ways(4, FOUR, [0, 1, 0, 1], [
            [6, 0, 1, 0, 2, 1, 0, 2, 1, 3, 0, 3, 2],
            [4, 0, 2, 1, 0, 3, 0, 3, 2],
            [3, 1, 0, 3, 0, 3, 2],
        ])
        self.assert_by_ways(4, FOUR, [0, 0, 1, 1], [[1, 2, 0], [0], [0]])
        self.assert_by_ways(4, FOUR, [0, 0, 1, 2], [[3, 2, 0, 2, 2, 3, 1], [2, 2, 2, 3, 1], [2, 2, 2, 3, 1]])

    def test_five(self):
        self.assert_by_ways(5, FIVE, [0, 0, 1, 1, 2], [
            [7, 1, 1, 1, 2, 1, 3, 3, 0, 3, 2, 3, 3, 4, 0],
            [4, 1, 2, 1, 3, 3, 0, 3, 3],
            [0],
        ])


class NamedEdges(MovesTest):
    def test_one_person(self):
        for own in (-20, 0, 20):
            self.assert_by_ways(1, [own], [0], [[0]] * 3)

    def test_all_alone(self):
        self.assert_by_ways(3, THREE, [0, 1, 2], [[4, 0, 1, 1, 0, 1, 2, 2, 0], [2, 0, 1, 1, 0], [2, 0, 1, 1, 0]])

    def test_all_in_one_group(self):
        self.assert_by_ways(3, THREE, [0, 0, 0], [[1, 2, 1], [1, 2, 1], [0]])

    def test_groups_told_by_other_numbers(self):
        expected = [[3, 0, 1, 0, 2, 1, 0], [2, 0, 1, 0, 2], [0]]
        for groups in ([1, 0, 1], [2, 0, 2], [2, 1, 2], [0, 2, 0], [1, 2, 1]):
            self.assert_by_ways(3, THREE, groups, expected)
        for groups in ([1, 1, 1], [2, 2, 2]):
            self.assert_by_ways(3, THREE, groups, [[1, 2, 1], [1, 2, 1], [0]])

    def test_alone_already(self):
        self.assert_by_ways(2, [0, -5, -5, 0], [0, 1], [[0]] * 3)
        # Person 2 is alone: group 0 is a move, the number behind all groups isn't.
        self.assert_by_ways(3, [0, 1, 0, 1, 0, 0, 1, 1, 0], [0, 0, 1], [[1, 2, 0]] * 3)
        # What one is worth to oneself makes being alone neither better nor worse.
        self.assert_by_ways(2, [20, -5, -5, 20], [0, 1], [[0]] * 3)
        self.assert_by_ways(2, [-20, -5, -5, -20], [0, 1], [[0]] * 3)

    def test_worths_all_0(self):
        for n in range(1, 6):
            for groups in itertools.product(range(n), repeat=n):
                self.assert_by_ways(n, [0] * (n * n), list(groups), [[0]] * 3)

    def test_the_least_and_the_most_worth(self):
        self.assert_by_ways(3, [20] * 9, [0, 0, 1], [[1, 2, 0]] * 3)
        self.assert_by_ways(3, [20] * 9, [0, 1, 2], [[6, 0, 1, 0, 2, 1, 0, 1, 2, 2, 0, 2, 1]] * 3)
        self.assert_by_ways(3, [-20] * 9, [0, 0, 0], [[3, 0, 1, 1, 1, 2, 1]] * 3)

    def test_a_person_whom_one_likes_and_who_doesnt(self):
        self.assert_by_ways(2, [0, 1, -1, 0], [0, 1], [[1, 0, 1], [0], [0]])
        # One of two there who doesn't is enough.
        self.assert_by_ways(3, [0, 2, 2, 5, 0, 9, -1, 9, 0], [0, 1, 1], [[1, 0, 1], [0], [0]])
        self.assert_by_ways(3, [0, 2, 2, -1, 0, 9, 5, 9, 0], [0, 1, 1], [[1, 0, 1], [0], [0]])

    def test_welcome_where_nobody_minds(self):
        self.assert_by_ways(2, [0, 1, 0, 0], [0, 1], [[1, 0, 1]] * 3)

    def test_welcome_and_not_let_go(self):
        # Person 0 would rather go to 2, who doesn't mind; 1 would have less.
        self.assert_by_ways(3, [0, 1, 2, 1, 0, 0, 0, 0, 0], [0, 0, 1], [[1, 0, 1], [1, 0, 1], [0]])
        # 1 doesn't mind either.
        self.assert_by_ways(3, [0, 1, 2, 0, 0, 0, 0, 0, 0], [0, 0, 1], [[1, 0, 1]] * 3)
        # One of two who'd have less is enough.
        worth = [0, -1, -1, -1, 0, 3, 2, 3, 0]
        self.assert_by_ways(3, worth, [0, 0, 0], [[1, 0, 1], [1, 0, 1], [0]])

    def test_let_go_and_not_welcome(self):
        # 1 would have more without person 0, but 2 would have less with them.
        worth = [0, 0, 2, -1, 0, 1, -1, 1, 0]
        self.assert_by_ways(3, worth, [0, 0, 1], [[3, 0, 1, 1, 1, 1, 2], [2, 1, 1, 1, 2], [2, 1, 1, 1, 2]])

    def test_a_move_to_be_alone(self):
        self.assert_by_ways(2, [0, -1, 0, 0], [0, 0], [[1, 0, 1]] * 3)
        self.assert_by_ways(2, [0, -1, 1, 0], [0, 0], [[1, 0, 1], [1, 0, 1], [0]])
        # Nothing lost and nothing won is no move.
        self.assert_by_ways(3, [0, 4, -4, 0, 0, 0, 0, 0, 0], [0, 0, 0], [[0]] * 3)

    def test_what_one_is_worth_to_oneself_means_nothing(self):
        for own in (-20, -1, 1, 20):
            worth = with_own(3, THREE, own)
            for w, groups in itertools.product(WAYS, itertools.product(range(3), repeat=3)):
                self.assertEqual(moves(3, w, worth, list(groups)), moves(3, w, THREE, list(groups)))


class ByMeaning(unittest.TestCase):
    def assert_in_all_groups(self, n, worth):
        for w, groups in itertools.product(WAYS, itertools.product(range(n), repeat=n)):
            told = list(groups)
            self.assertEqual(moves(n, w, worth, told), moves_by_meaning(n, w, worth, told), (n, w, worth, told))

    def test_two_with_every_small_worth(self):
        for first, second in itertools.product(range(-2, 3), repeat=2):
            self.assert_in_all_groups(2, [1, first, second, -1])

    def test_three_with_every_sign(self):
        for a, b, c, d, e, f in itertools.product((-1, 0, 1), repeat=6):
            self.assert_in_all_groups(3, [1, a, b, c, -1, d, e, f, 1])

    def test_four_and_five(self):
        self.assert_in_all_groups(4, FOUR)
        self.assert_in_all_groups(5, FIVE)
        for step in (11, 16):
            self.assert_in_all_groups(4, [place * step % 41 - 20 for place in range(16)])
            self.assert_in_all_groups(5, [place * step % 7 - 3 for place in range(25)])


class WrongInputs(unittest.TestCase):
    def test_refused_by_every_way(self):
        for what, n, worth, groups in wrong_inputs():
            for w in WAYS:
                with self.subTest(what, w=w):
                    self.assertEqual(moves(n, w, worth, groups), [-22])

    def test_no_such_way(self):
        for w in (3, 4, BEYOND):
            for n in range(1, 6):
                self.assertEqual(moves(n, w, [1] * (n * n), [0] * n), [-22])
                self.assertEqual(moves(n, w, [1] * (n * n), list(range(n))), [-22])

    def test_no_such_way_and_another_wrong_input(self):
        for what, n, worth, groups in wrong_inputs():
            for w in (3, BEYOND):
                with self.subTest(what, w=w):
                    self.assertEqual(moves(n, w, worth, groups), [-22])


class WhatIsHandedIn(unittest.TestCase):
    def test_unchanged(self):
        for w, groups in itertools.product((0, 1, 2, 3), itertools.product(range(4), repeat=3)):
            worth = HandedIn(THREE)
            told = HandedIn(groups)
            moves(3, w, worth, told)
            self.assertEqual(worth, THREE)
            self.assertEqual(told, list(groups))

    def test_unchanged_where_refused(self):
        for what, n, worth, groups in wrong_inputs():
            with self.subTest(what):
                worth_in, groups_in = HandedIn(worth), HandedIn(groups)
                moves(n, 2, worth_in, groups_in)
                self.assertEqual((worth_in, groups_in), (worth, groups))


class WhatIsAnswered(unittest.TestCase):
    def test_a_list_of_whole_numbers(self):
        for answer in (moves(3, 0, THREE, [2, 0, 2]), moves(1, 0, [0], [0]), moves(3, 3, THREE, [2, 0, 2])):
            self.assertIs(type(answer), list)
            self.assertEqual([type(number) for number in answer], [int] * len(answer))

    def test_nothing_is_kept_between_calls(self):
        for w in (0, 1, 2, 3):
            first = moves(3, w, THREE, [2, 0, 2])
            expected = list(first)
            first.append(99)
            first[0] = 99
            self.assertEqual(moves(3, w, THREE, [2, 0, 2]), expected)


if __name__ == "__main__":
    unittest.main()

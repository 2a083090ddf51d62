import itertools
import unittest

from handed_in import HandedIn
from meaning import HOW_MANY_WAYS, WAYS, rests_by_meaning
from ratherwhere.people import rests
from samples import FIVE, FOUR, RESTLESS, THREE, many_worths, with_own
from wrong import BEYOND, wrong_n, wrong_worth


def wrong_worths():
    """Of each: what is wrong, n, worth."""
    found = [(what, n, worth) for what, n, worth, groups in wrong_n() + wrong_worth()]
    found.append(("n and worth's number", 6, [21]))
    found.append(("worth's length and its number", 2, [0, 0, 0, 0, 21]))
    found.append(("worth's length and its number, below", 2, [0, -21, 0]))
    return found


def couples(n, pairs, others):
    """Those of each pair are worth as much to one another as the pair tells; others are worth others."""
    worth = [others] * (n * n)
    for first, second, value in pairs:
        worth[first * n + second] = value
        worth[second * n + first] = value
    return worth


class RestsTest(unittest.TestCase):
    def assert_by_ways(self, n, worth, expected):
        """expected: the whole list by each of the ways 0, 1 and 2."""
        self.assertEqual([rests(n, w, worth) for w in WAYS], expected)


class OrdinaryInputs(RestsTest):
    def test_two(self):
        self.assert_by_ways(2, [0, 7, 4, 0], [[1, 0, 0]] * 3)
        self.assert_by_ways(2, [0, -7, -4, 0], [[1, 0, 1]] * 3)
        self.assert_by_ways(2, [0, 0, -1, 0], [[1, 0, 1]] * 3)

    def test_three(self):
        self.assert_by_ways(3, THREE, [[0], [1, 0, 0, 1], [3, 0, 0, 0]])

    def test_four(self):
        self.assert_by_ways(4, FOUR, [[2, 0, 0, 0, 0], [3, 0, 0, 0, 0], [5, 0, 0, 0, 0]])
        apart = [1, 0, 1, 0, 1]
        # All in one group is at rest by way 2, since nobody's other half lets them go.
        self.assert_by_ways(4, couples(4, [(0, 2, 3), (1, 3, 3)], -4), [apart, apart, [2, 0, 0, 0, 0]])

    def test_five(self):
        self.assert_by_ways(5, FIVE, [[1, 0, 0, 0, 0, 0], [12, 0, 0, 0, 0, 0], [52, 0, 0, 0, 0, 0]])
        apart = [1, 0, 1, 0, 2, 1]
        self.assert_by_ways(5, couples(5, [(0, 2, 3), (1, 4, 3)], -4), [apart, apart, [2, 0, 0, 0, 1, 0]])


class NamedEdges(RestsTest):
    def test_one_person(self):
        for own in (-20, -1, 0, 1, 20):
            self.assert_by_ways(1, [own], [[1, 0]] * 3)

    def test_worths_all_0(self):
        for n in range(1, 6):
            self.assert_by_ways(n, [0] * (n * n), [[HOW_MANY_WAYS[n]] + [0] * n] * 3)

    def test_a_person_whom_one_likes_and_who_doesnt(self):
        self.assert_by_ways(2, [0, 1, -1, 0], [[0], [1, 0, 1], [2, 0, 0]])
        self.assert_by_ways(2, [0, -1, 1, 0], [[0], [1, 0, 1], [2, 0, 0]])

    def test_one_who_likes_another_where_nobody_else_likes_anybody(self):
        for n in range(2, 6):
            worth = [-20] * (n * n)
            worth[1] = 20
            alone = list(range(n))
            # Person 0 doesn't let person 1 go: so they, and the others alone, are at rest by way 2.
            self.assert_by_ways(n, worth, [[0], [1] + alone, [2, 0, 0] + alone[1:-1]])

    def test_the_least_and_the_most_worth(self):
        # By way 2 nobody who isn't alone is let go: four may be two and two, five may be two and three.
        for n, held in ((1, 1), (2, 1), (3, 1), (4, 4), (5, 11)):
            together = [0] * n
            self.assert_by_ways(n, [20] * (n * n), [[1] + together, [1] + together, [held] + together])
            self.assert_by_ways(n, [-20] * (n * n), [[1] + list(range(n))] * 3)

    def test_no_way_is_at_rest_where_one_must_be_welcome(self):
        self.assert_by_ways(5, RESTLESS, [[0], [0], [6, 0, 0, 0, 0, 0]])

    def test_the_first_is_by_the_first_person_who_differs(self):
        # At rest are 0 with 1, the others alone, and, in fewer groups, 0 with 2 and 1 with 3.
        worth = couples(4, [(0, 1, 5), (0, 2, 3), (1, 3, 3)], -9)
        self.assert_by_ways(4, worth, [[2, 0, 0, 1, 2], [2, 0, 0, 1, 2], [5, 0, 0, 0, 0]])
        # At rest are all but 3, and 0 with 2 and 1 with 4.
        self.assert_by_ways(5, couples(5, [(0, 2, 3), (1, 4, 3)], -1), [[2, 0, 0, 0, 1, 0]] * 3)

    def test_what_one_is_worth_to_oneself_means_nothing(self):
        for n, worth in ((2, [0, 1, -1, 0]), (3, THREE), (4, FOUR), (5, FIVE), (5, RESTLESS)):
            for w, own in itertools.product(WAYS, (-20, -1, 1, 20)):
                self.assertEqual(rests(n, w, with_own(n, worth, own)), rests(n, w, worth))


class ByMeaning(RestsTest):
    def assert_by_meaning(self, n, worth):
        self.assert_by_ways(n, worth, [rests_by_meaning(n, w, worth) for w in WAYS])

    def test_two_with_every_small_worth(self):
        for first, second in itertools.product(range(-2, 3), repeat=2):
            self.assert_by_meaning(2, [1, first, second, -1])

    def test_three_with_every_sign(self):
        for a, b, c, d, e, f in itertools.product((-1, 0, 1), repeat=6):
            self.assert_by_meaning(3, [1, a, b, c, -1, d, e, f, 1])

    def test_four_and_five(self):
        for most in (1, 3, 20):
            for worth in many_worths(4, most, 25):
                self.assert_by_meaning(4, worth)
            for worth in many_worths(5, most, 4):
                self.assert_by_meaning(5, worth)


class WhatHolds(unittest.TestCase):
    def each_worth(self):
        for first, second in itertools.product(range(-3, 4), repeat=2):
            yield 2, [5, first, second, -5]
        for a, b, c, d, e, f in itertools.product((-1, 0, 1), repeat=6):
            yield 3, [0, a, b, c, 0, d, e, f, 0]
        for n, most in itertools.product((3, 4, 5), (1, 2, 5, 20)):
            for worth in many_worths(n, most, 60):
                yield n, worth
        yield 5, RESTLESS

    def test_at_rest_by_a_way_is_at_rest_by_the_next(self):
        for n, worth in self.each_worth():
            likes, welcome, let_go = [rests(n, w, worth) for w in WAYS]
            for before, behind in ((likes, welcome), (welcome, let_go)):
                self.assertLessEqual(before[0], behind[0], (n, worth))
                # What is first at rest still is: so nothing behind it is first by the next way.
                if before[0] > 0:
                    self.assertLessEqual(behind[1:], before[1:], (n, worth))

    def test_some_way_is_at_rest_where_one_must_be_let_go(self):
        for n, worth in self.each_worth():
            self.assertGreaterEqual(rests(n, 2, worth)[0], 1, (n, worth))

    def test_a_number_alone_or_n_others(self):
        for n, worth in self.each_worth():
            for w in WAYS:
                answer = rests(n, w, worth)
                self.assertEqual(len(answer), 1 + n if answer[0] > 0 else 1)
                self.assertLessEqual(answer[0], HOW_MANY_WAYS[n])


class WrongInputs(unittest.TestCase):
    def test_refused_by_every_way(self):
        for what, n, worth in wrong_worths():
            for w in WAYS:
                with self.subTest(what, w=w):
                    self.assertEqual(rests(n, w, worth), [-22])

    def test_no_such_way(self):
        for w in (3, 4, BEYOND):
            for n in range(1, 6):
                self.assertEqual(rests(n, w, [0] * (n * n)), [-22])
                self.assertEqual(rests(n, w, [1] * (n * n)), [-22])

    def test_no_such_way_and_another_wrong_input(self):
        for what, n, worth in wrong_worths():
            for w in (3, BEYOND):
                with self.subTest(what, w=w):
                    self.assertEqual(rests(n, w, worth), [-22])


class WhatIsHandedIn(unittest.TestCase):
    def test_unchanged(self):
        for w in (0, 1, 2, 3):
            for n, sample in ((1, [7]), (2, [0, 1, -1, 0]), (3, THREE), (4, FOUR), (5, FIVE), (5, RESTLESS)):
                worth = HandedIn(sample)
                rests(n, w, worth)
                self.assertEqual(worth, sample)

    def test_unchanged_where_refused(self):
        for what, n, worth in wrong_worths():
            with self.subTest(what):
                handed_in = HandedIn(worth)
                rests(n, 2, handed_in)
                self.assertEqual(handed_in, worth)


class WhatIsAnswered(unittest.TestCase):
    def test_a_list_of_whole_numbers(self):
        for answer in (rests(3, 2, THREE), rests(3, 0, THREE), rests(1, 0, [0]), rests(3, 3, THREE)):
            self.assertIs(type(answer), list)
            self.assertEqual([type(number) for number in answer], [int] * len(answer))

    def test_nothing_is_kept_between_calls(self):
        for n, w, worth in ((3, 0, THREE), (3, 2, THREE), (3, 3, THREE), (1, 0, [0]), (0, 0, [])):
            first = rests(n, w, worth)
            expected = list(first)
            first.append(99)
            first[0] = 99
            self.assertEqual(rests(n, w, worth), expected)


if __name__ == "__main__":
    unittest.main()

import unittest

from meaning import HOW_MANY_WAYS, WAYS, ways_by_meaning
from ratherwhere.people import all_ways, rests
from wrong import BEYOND


class HowManyWays(unittest.TestCase):
    def test_every_number_of_people(self):
        self.assertEqual(all_ways(1), [1])
        self.assertEqual(all_ways(2), [2])
        self.assertEqual(all_ways(3), [5])
        self.assertEqual(all_ways(4), [15])
        self.assertEqual(all_ways(5), [52])

    def test_by_meaning(self):
        for n in range(1, 6):
            self.assertEqual(all_ways(n), [len(ways_by_meaning(n))])

    def test_all_are_at_rest_where_worths_are_all_0(self):
        for n in range(1, 6):
            for w in WAYS:
                self.assertEqual(rests(n, w, [0] * (n * n))[:1], all_ways(n))


class WrongInputs(unittest.TestCase):
    def test_n_isnt_1_to_5(self):
        for n in (0, 6, 7, 8, 27, 2147483648, BEYOND):
            self.assertEqual(all_ways(n), [-22])


class WhatIsAnswered(unittest.TestCase):
    def test_a_whole_number_alone_as_a_list(self):
        for n in list(range(8)) + [BEYOND]:
            answer = all_ways(n)
            self.assertIs(type(answer), list)
            self.assertEqual([type(number) for number in answer], [int])

    def test_nothing_is_kept_between_calls(self):
        for n in (0, 1, 5, 6):
            first = all_ways(n)
            first[0] = 99
            first.append(99)
            self.assertEqual(all_ways(n), [HOW_MANY_WAYS.get(n, -22)])


if __name__ == "__main__":
    unittest.main()

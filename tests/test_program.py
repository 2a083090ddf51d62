"""What the document promises over the whole program, of every call."""

import ast
import contextlib
import copy
import importlib.util
import inspect
import io
import itertools
import pathlib
import unittest

from handed_in import HandedIn
from meaning import HOW_MANY_WAYS, WAYS, ways_by_meaning
from ratherwhere import people
from samples import RESTLESS, SAMPLES, THREE, many_worths
from wrong import BEYOND, wrong_inputs

INTERFACE = {
    "worths": ["n", "worth", "groups"],
    "moves": ["n", "w", "worth", "groups"],
    "rests": ["n", "w", "worth"],
    "go": ["n", "i", "k", "worth", "groups"],
    "best": ["n", "i", "worth", "groups"],
    "all_ways": ["n"],
}


def call(module, name, told):
    """What the call answers, by lists made anew."""
    return getattr(module, name)(*copy.deepcopy(told))


def calls_with(n, worth, groups, w=0, i=0, k=0):
    """Each call's name and what is handed in."""
    values = {"n": n, "w": w, "i": i, "k": k, "worth": worth, "groups": groups}
    return [(name, [values[kind] for kind in kinds]) for name, kinds in INTERFACE.items()]


def answered_calls():
    found = []
    for n, worth in SAMPLES + ((5, RESTLESS),):
        for groups in ([0] * n, list(range(n)), [n - 1] * (n - 1) + [0]):
            for w in WAYS:
                found += calls_with(n, worth, groups, w=w, i=w % n, k=1)
    return found


def refused_calls():
    """Each call's name, what is handed in, and the refusal that is due."""
    found = []
    for what, n, worth, groups in wrong_inputs():
        for name, told in calls_with(n, worth, groups, w=3, i=n, k=7):
            # To all_ways n alone is handed in, and mostly that isn't what is wrong.
            if name != "all_ways" or n not in HOW_MANY_WAYS:
                found.append((name, told, -22))
    due = {"moves": -22, "rests": -22, "go": -2, "best": -2}
    for beyond in (3, BEYOND):
        for name, told in calls_with(3, THREE, [0, 1, 0], w=beyond, i=beyond, k=beyond):
            if name in due:
                found.append((name, told, due[name]))
    return found


def every_call():
    return answered_calls() + [(name, told) for name, told, due in refused_calls()]


def fresh_people():
    """The module as it is when nothing was called yet."""
    spec = importlib.util.spec_from_file_location("fresh_people", people.__file__)
    module = importlib.util.module_from_spec(spec)
    spec.loader.exec_module(module)
    return module


def each_worth():
    """Of each: n, worth."""
    for first, second in itertools.product(range(-2, 3), repeat=2):
        yield 2, [3, first, second, -3]
    for n, how_many in ((1, 2), (3, 20), (4, 10), (5, 4)):
        for most in (1, 2, 20):
            for worth in many_worths(n, most, how_many):
                yield n, worth
    yield 5, RESTLESS


def only_liking(way):
    """Each likes those of their group in this way, and can't stand the others: so only this way is at rest."""
    n = len(way)
    return [1 if way[i] == way[j] else -20 for i in range(n) for j in range(n)]


class Interface(unittest.TestCase):
    def test_names_and_arguments(self):
        for name, kinds in INTERFACE.items():
            self.assertEqual(list(inspect.signature(getattr(people, name)).parameters), kinds)

    def test_imports_nothing(self):
        for path in sorted(pathlib.Path(people.__file__).parent.glob("*.py")):
            for node in ast.walk(ast.parse(path.read_text())):
                self.assertNotIsInstance(node, (ast.Import, ast.ImportFrom), path)

    def test_prints_nothing(self):
        printed = io.StringIO()
        with contextlib.redirect_stdout(printed), contextlib.redirect_stderr(printed):
            for name, told in every_call():
                call(people, name, told)
        self.assertEqual(printed.getvalue(), "")


class WhatIsAnswered(unittest.TestCase):
    def others(self, name, told, first):
        """How many numbers stand behind the first one."""
        n = told[0]
        if first < 0:
            return 0
        return {
            "worths": 2 * n,
            "moves": 2 * first,
            "rests": n if first > 0 else 0,
            "go": n + 1,
            "best": 1,
            "all_ways": 0,
        }[name]

    def test_a_list_of_whole_numbers_as_long_as_told(self):
        for name, told in every_call():
            with self.subTest(name, told=told):
                answer = call(people, name, told)
                self.assertIs(type(answer), list)
                self.assertEqual([type(number) for number in answer], [int] * len(answer))
                self.assertEqual(len(answer), 1 + self.others(name, told, answer[0]))

    def test_the_first_number_is_below_0_just_where_it_is_a_refusal(self):
        for name, told in answered_calls():
            self.assertGreaterEqual(call(people, name, told)[0], 0, (name, told))
        for name, told, due in refused_calls():
            self.assertEqual(call(people, name, told), [due], (name, told))


class NothingIsKept(unittest.TestCase):
    def test_twice_in_a_row(self):
        for name, told in every_call():
            module = fresh_people()
            first = call(module, name, told)
            expected = list(first)
            # Not even by way of what was answered.
            first.append(99)
            first[0] = 99
            self.assertEqual(call(module, name, told), expected, (name, told))

    def test_after_other_calls(self):
        every = every_call()
        expected = [call(fresh_people(), name, told) for name, told in every]
        for order in (range(len(every)), reversed(range(len(every)))):
            for place in order:
                name, told = every[place]
                self.assertEqual(call(people, name, told), expected[place], (name, told))

    def test_each_call_after_each_other(self):
        several = [(name, told) for name, told, due in refused_calls()[-8:]]
        for n, worth in SAMPLES[1:]:
            several += calls_with(n, worth, [1] + [0] * (n - 1), w=1, i=1, k=0)
        expected = [call(fresh_people(), name, told) for name, told in several]
        for before, behind in itertools.product(range(len(several)), repeat=2):
            call(people, *several[before])
            self.assertEqual(call(people, *several[behind]), expected[behind], (several[before], several[behind]))

    def test_nothing_of_the_module_changes(self):
        def plain_values(module):
            return {name: value for name, value in vars(module).items()
                    if not name.startswith("__") and not inspect.isfunction(value)}

        module = fresh_people()
        before = copy.deepcopy(plain_values(module))
        for name, told in every_call():
            call(module, name, told)
        self.assertEqual(plain_values(module), before)


class WhatIsHandedIn(unittest.TestCase):
    def test_no_call_changes_it(self):
        for name, told in every_call():
            handed_in = [HandedIn(value) if isinstance(value, list) else value for value in told]
            answer = getattr(people, name)(*handed_in)
            self.assertEqual(handed_in, told, name)
            self.assertFalse(any(answer is value for value in handed_in), name)


class WhatHolds(unittest.TestCase):
    def test_a_all_ways_are_gone_through_each_once(self):
        for n in range(1, 6):
            ways = ways_by_meaning(n)
            self.assertEqual(people.all_ways(n), [len(ways)])
            for way in ways:
                # Gone through twice, it would be counted twice.
                self.assertEqual(people.rests(n, 0, only_liking(way)), [1] + way)

    def test_a_rests_and_moves_agree(self):
        for n, worth in each_worth():
            for w in WAYS:
                at_rest = [way for way in ways_by_meaning(n) if people.moves(n, w, worth, way) == [0]]
                expected = [len(at_rest)] + (at_rest[0] if at_rest else [])
                self.assertEqual(people.rests(n, w, worth), expected, (n, w, worth))

    def test_b_at_rest_by_a_way_is_at_rest_by_the_next(self):
        for n, worth in each_worth():
            for way in ways_by_meaning(n):
                likes, welcome, let_go = [people.moves(n, w, worth, way)[0] == 0 for w in WAYS]
                self.assertLessEqual(likes, welcome, (n, worth, way))
                self.assertLessEqual(welcome, let_go, (n, worth, way))

    def test_c_some_way_is_at_rest_where_one_must_be_welcome_and_let_go(self):
        for n, worth in each_worth():
            self.assertGreaterEqual(people.rests(n, 2, worth)[0], 1, (n, worth))

    def test_d_where_one_would_have_most_nobodyd_rather_go_elsewhere(self):
        for n, worth in each_worth():
            for way in ways_by_meaning(n):
                for i in range(n):
                    where, has = people.best(n, i, worth, way)
                    there = people.go(n, i, where, worth, way)[1:1 + n]
                    self.assertEqual(people.worths(n, worth, there)[1 + n + i], has)
                    self.assertNotIn(i, people.moves(n, 0, worth, there)[1::2], (n, i, worth, way))


if __name__ == "__main__":
    unittest.main()

import itertools
import math
import random
import unittest

from samples import any_values, caught
from stucklots.rounds import cross, in_round, next_in_round, reduced, turned_half

EIGHT = [(1, 0), (1, 1), (0, 1), (-1, 1), (-1, 0), (-1, -1), (0, -1), (1, -1)]
FINE = [(999, 1), (999, 2), (998, 999), (997, 998), (1, 999), (-1, 999), (-999, 1), (-998, -999), (1, -999), (999, -1)]


def angle(direction):
    return math.atan2(direction[1], direction[0]) % (2 * math.pi)


def many_directions(many, seed):
    chance = random.Random(seed)
    found = []
    while len(found) < many:
        pair = (chance.randint(-9, 9), chance.randint(-9, 9))
        if math.gcd(*pair) == 1:
            found.append(pair)
    return found


class CrossTests(unittest.TestCase):
    def test_values(self):
        self.assertEqual(cross((1, 0), (0, 1)), 1)
        self.assertEqual(cross((0, 1), (1, 0)), -1)
        self.assertEqual(cross((2, 3), (5, 7)), -1)
        self.assertEqual(cross((2, 3), (4, 6)), 0)
        self.assertEqual(cross((0, 0), (4, 6)), 0)
        self.assertEqual(cross((-2, 3), (5, -7)), -1)
        self.assertEqual(cross((999999999, 1), (1, 999999999)), 999999999 ** 2 - 1)

    def test_by_name(self):
        self.assertEqual(cross(other=(5, 7), one=(2, 3)), -1)


class TurnedHalfTests(unittest.TestCase):
    def test_values(self):
        self.assertEqual(turned_half((1, 0)), (-1, 0))
        self.assertEqual(turned_half((-3, 5)), (3, -5))
        self.assertEqual(turned_half(direction=(0, -1)), (0, 1))

    def test_twice(self):
        for direction in EIGHT + FINE:
            self.assertEqual(turned_half(turned_half(direction)), direction)


class ReducedTests(unittest.TestCase):
    def test_values(self):
        self.assertEqual(reduced((4, 6)), (2, 3))
        self.assertEqual(reduced((-4, 6)), (-2, 3))
        self.assertEqual(reduced((4, -6)), (2, -3))
        self.assertEqual(reduced((-4, -6)), (-2, -3))
        self.assertEqual(reduced((7, 0)), (1, 0))
        self.assertEqual(reduced((0, -7)), (0, -1))
        self.assertEqual(reduced((-999, 998)), (-999, 998))
        self.assertEqual(reduced(pair=(0, 12)), (0, 1))

    def test_great_numbers(self):
        self.assertEqual(reduced((999999999, -999999999)), (1, -1))
        self.assertEqual(reduced((999000000, 998000000)), (999, 998))
        self.assertEqual(reduced((0, -999999999)), (0, -1))
        self.assertEqual(reduced((999 * 10 ** 30, 10 ** 30)), (999, 1))

    def test_wrong_pairs(self):
        for pair in [(0, 0), (1000, 1), (1, -1000), (2000, 2), (-999999999, 1), (1000, 999), *any_values(),
                     [1, 0], (1, 0, 0), 1, (1,), ((1, 0), (0, 1)), (True, 1), (1, False), (False, False)]:
            with self.subTest(pair=pair):
                self.assertEqual(caught(reduced, pair), ('InvalidDirection', {'value': pair}))

    def test_the_very_value_is_told(self):
        pair = [1, 0]
        with self.assertRaises(ValueError) as raised:
            reduced(pair)
        self.assertIs(raised.exception.value, pair)


class InRoundTests(unittest.TestCase):
    def test_all_quarters(self):
        self.assertEqual(in_round(EIGHT[::-1]), EIGHT)
        self.assertEqual(in_round(EIGHT[5:] + EIGHT[:5]), EIGHT)
        self.assertEqual(in_round(directions=EIGHT[::2] + EIGHT[1::2]), EIGHT)

    def test_each_two_and_each_three_in_each_order(self):
        for many in (2, 3):
            for row in itertools.permutations(EIGHT + FINE[::3], many):
                self.assertEqual(in_round(row), sorted(row, key=angle))

    def test_near_directions(self):
        expected = [(999, 1), (999, 2), (998, 999), (1, 999), (-1, 999), (-999, 1), (-998, -999), (1, -999), (999, -1)]
        self.assertEqual(in_round(sorted(expected)), expected)
        self.assertEqual(in_round([(998, 999), (997, 998)]), [(998, 999), (997, 998)])
        self.assertEqual(in_round([(997, 998), (998, 999)]), [(998, 999), (997, 998)])

    def test_doubles_and_nothing(self):
        self.assertEqual(in_round([(0, 1), (1, 0), (0, 1), (1, 0), (1, 0)]), [(1, 0), (0, 1)])
        self.assertEqual(in_round([]), [])
        self.assertEqual(in_round(()), [])
        self.assertEqual(in_round([(0, -1)]), [(0, -1)])

    def test_opposite_directions_are_no_doubles(self):
        self.assertEqual(in_round([(-1, 0), (1, 0)]), [(1, 0), (-1, 0)])
        self.assertEqual(in_round([(2, -3), (-2, 3)]), [(-2, 3), (2, -3)])

    def test_many(self):
        for seed in range(20):
            directions = many_directions(40, seed)
            self.assertEqual(in_round(directions), sorted(set(directions), key=angle))

    def test_tuples_may_be_passed_and_lists_stay(self):
        passed = [(0, -1), (0, 1), (0, -1)]
        found = in_round(passed)
        found.append('more')
        self.assertEqual(passed, [(0, -1), (0, 1), (0, -1)])
        self.assertEqual(in_round(tuple(passed)), [(0, 1), (0, -1)])

    def test_the_list_is_new(self):
        passed = [(1, 0), (0, 1)]
        self.assertIsNot(in_round(passed), passed)


class NextInRoundTests(unittest.TestCase):
    def test_a_member(self):
        for direction in EIGHT:
            self.assertEqual(next_in_round(EIGHT[::-1], direction), direction)

    def test_between_two(self):
        axes = [(0, -1), (0, 1), (-1, 0), (1, 0)]
        found = [next_in_round(axes, direction) for direction in EIGHT[1::2]]
        self.assertEqual(found, [(0, 1), (-1, 0), (0, -1), (1, 0)])

    def test_behind_the_last_one(self):
        self.assertEqual(next_in_round([(0, 1), (-1, 0)], (0, -1)), (0, 1))
        self.assertEqual(next_in_round([(0, 1), (-1, 0)], (999, -1)), (0, 1))
        self.assertEqual(next_in_round([(0, 1)], (-1, 1)), (0, 1))

    def test_ahead_of_the_first_one(self):
        self.assertEqual(next_in_round([(-1, 0), (0, 1)], (1, 0)), (0, 1))

    def test_one_alone_and_doubles(self):
        for direction in EIGHT:
            self.assertEqual(next_in_round([(3, -2)], direction), (3, -2))
            self.assertEqual(next_in_round(((3, -2), (3, -2)), direction), (3, -2))

    def test_many(self):
        for seed in range(20):
            directions = many_directions(5, seed)
            for direction in many_directions(20, seed + 100):
                turn = [(angle(other) - angle(direction)) % (2 * math.pi) for other in directions]
                exact = [0 if other == direction else step for other, step in zip(directions, turn)]
                self.assertEqual(next_in_round(directions, direction), directions[exact.index(min(exact))])

    def test_an_empty_list(self):
        for empty in ([], ()):
            self.assertEqual(caught(next_in_round, empty, (0, 1)), ('InvalidDirection', {'value': (0, 1)}))

    def test_values_that_are_no_direction(self):
        for value in [(0, 0), (2, 0), (1000, 1), [1, 0], (True, 0), *any_values()]:
            for directions in ([(1, 0)], []):
                with self.subTest(value=value, directions=directions):
                    expected = ('InvalidDirection', {'value': value})
                    self.assertEqual(caught(next_in_round, directions, value), expected)

    def test_the_list_stays(self):
        passed = [(0, -1), (1, 0), (0, -1)]
        self.assertEqual(next_in_round(direction=(0, 1), directions=passed), (0, -1))
        self.assertEqual(passed, [(0, -1), (1, 0), (0, -1)])


if __name__ == '__main__':
    unittest.main()

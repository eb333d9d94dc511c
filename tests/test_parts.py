import random
import unittest

from reference import are_joined, bars_part, do_overlap, is_side
from samples import any_values, box, caught, random_part, told_from_each_corner
from stucklots.parts import area_twice, differences, is_part, joined, overlap, part_told, side

TRIANGLE = ((0, 0), (3, 0), (0, 3))
SQUARE = ((0, 0), (2, 0), (2, 2), (0, 2))
FIVE = ((0, 0), (4, 0), (5, 3), (2, 5), (-1, 3))
SIX = ((0, 0), (2, 0), (3, 2), (2, 4), (0, 4), (-1, 2))
SEVEN = ((0, 0), (2, 0), (4, 1), (5, 3), (4, 5), (2, 6), (-1, 3))
SIX_DIRECTIONS = [(1, 0), (0, 1), (-1, 0), (0, -1), (2, 3), (-3, 1)]


class IsPartTests(unittest.TestCase):
    def test_right_parts_told_from_each_corner(self):
        for part in [TRIANGLE, SQUARE, FIVE, SIX, ((-200, -200), (200, -200), (200, 200), (-200, 200)),
                     ((0, 0), (1, 0), (0, 1)), ((0, 0), (200, 199), (199, 199))]:
            for told in told_from_each_corner(part):
                self.assertIs(is_part(told), True, told)

    def test_corners_told_to_the_right(self):
        for part in [TRIANGLE, SQUARE, FIVE, SIX]:
            for told in told_from_each_corner(part[::-1]):
                self.assertIs(is_part(told), False, told)

    def test_three_corners_in_line(self):
        for part in [((0, 0), (1, 0), (2, 0)), ((0, 0), (1, 0), (2, 0), (0, 2)), ((0, 0), (2, 0), (1, 1), (0, 2)),
                     ((0, 0), (4, 0), (4, 4), (0, 4), (0, 2)), ((0, 0), (0, 0), (0, 0))]:
            for told in told_from_each_corner(part):
                self.assertIs(is_part(told), False, told)

    def test_hollow_corners(self):
        for told in told_from_each_corner(((0, 0), (4, 0), (1, 1), (0, 4))):
            self.assertIs(is_part(told), False, told)

    def test_star_shaped_orders(self):
        star = tuple(FIVE[at * 2 % 5] for at in range(5))
        self.assertIs(is_part(star), False)
        twice = (SIX[0], SIX[2], SIX[4], SIX[1], SIX[3], SIX[5])
        self.assertIs(is_part(twice), False)
        self.assertIs(is_part((SQUARE[0], SQUARE[2], SQUARE[1], SQUARE[3])), False)
        self.assertIs(is_part((TRIANGLE + TRIANGLE)), False)

    def test_double_corners(self):
        for part in [TRIANGLE + TRIANGLE[:1], TRIANGLE + TRIANGLE[2:], SQUARE + SQUARE[1:2], SQUARE[:2] + SQUARE[1:]]:
            for told in told_from_each_corner(part):
                self.assertIs(is_part(told), False, told)

    def test_two_and_seven_corners(self):
        self.assertEqual([is_part(SEVEN[:many]) for many in range(8)], [False] * 3 + [True] * 4 + [False])

    def test_bounds(self):
        self.assertIs(is_part(((-200, 0), (200, 0), (0, 200))), True)
        for far in [((-201, 0), (200, 0), (0, 200)), ((0, 0), (201, 0), (0, 1)), ((0, 0), (1, 0), (0, 201)),
                    ((0, -201), (1, 0), (0, 1))]:
            self.assertIs(is_part(far), False, far)

    def test_lists_in_place_of_tuples(self):
        self.assertIs(is_part(list(SQUARE)), False)
        self.assertIs(is_part(tuple(list(corner) for corner in SQUARE)), False)
        self.assertIs(is_part(SQUARE[:3] + ([0, 2],)), False)

    def test_true_and_false_within(self):
        self.assertIs(is_part(((0, 0), (1, 0), (0, 1))), True)
        self.assertIs(is_part(((0, 0), (True, 0), (0, 1))), False)
        self.assertIs(is_part(((0, 0), (1, 0), (0, True))), False)
        self.assertIs(is_part(((0, False), (1, 0), (0, 1))), False)

    def test_any_values(self):
        for value in any_values() + [0, 5, (1, 2, 3), ('a', 'b', 'c'), ((), (), ()), 'abc', {1: 2},
                                     ((0, 0, 0), (1, 0, 0), (0, 1, 0)), ((0, 0), (1, 0), None)]:
            self.assertIs(is_part(value), False, value)

    def test_parts_by_chance(self):
        chance = random.Random(1)
        for _ in range(200):
            part = random_part(chance)
            self.assertIs(is_part(part), True, part)
            self.assertIs(is_part(part[::-1]), False, part)


class ToldAndAreaTests(unittest.TestCase):
    def test_told_from_the_least_corner(self):
        self.assertEqual(part_told(FIVE), ((-1, 3), (0, 0), (4, 0), (5, 3), (2, 5)))
        for part in [TRIANGLE, SQUARE]:
            for told in told_from_each_corner(part):
                self.assertEqual(part_told(told), part)
        for told in told_from_each_corner(SIX):
            self.assertEqual(part_told(part=told), ((-1, 2),) + SIX[:5])

    def test_area(self):
        self.assertEqual([area_twice(part) for part in (TRIANGLE, SQUARE, SIX)], [9, 8, 24])
        self.assertEqual(area_twice(part=FIVE), 42)
        for told in told_from_each_corner(tuple((x + 50, y - 70) for x, y in FIVE)):
            self.assertEqual(area_twice(told), 42)


PAIRS = {
    'edge at edge': (SQUARE, box(2, 0), False, True),
    'above': (SQUARE, box(0, 2), False, True),
    'a shared stretch': (SQUARE, box(2, 1), False, True),
    'a short edge within a long one': (box(0, 0, 9, 1), box(3, 1, 2, 5), False, True),
    'a short stretch': (SQUARE, box(2, -1), False, True),
    'slanting': (TRIANGLE, ((3, 0), (3, 3), (0, 3)), False, True),
    'slanting, with a stretch': (((0, 0), (6, 0), (0, 6)), ((5, 1), (9, 9), (2, 4)), False, True),
    'a corner alone': (SQUARE, box(2, 2), False, False),
    'a corner alone, below': (SQUARE, box(2, -2), False, False),
    'a corner on an edge': (SQUARE, ((2, 1), (4, 0), (4, 2)), False, False),
    'edges in line that share a corner alone': (SQUARE, ((2, 0), (5, -1), (4, 0)), False, False),
    'edges in line apart': (SQUARE, box(2, 3), False, False),
    'apart': (SQUARE, box(5, 5), False, False),
    'apart beside': (SQUARE, box(3, 0), False, False),
    'apart with boxes that meet': (((0, 0), (4, 0), (0, 4)), ((4, 4), (1, 4), (4, 1)), False, False),
    'the same': (SQUARE, SQUARE, True, False),
    'one within the other': (box(0, 0, 9, 9), box(3, 3), True, False),
    'one within the other at an edge': (box(0, 0, 9, 9), box(0, 3), True, False),
    'crossed': (box(0, 3, 9, 2), box(3, 0, 2, 9), True, False),
    'a corner within': (SQUARE, box(1, 1), True, False),
    'an edge in line and overlapping': (SQUARE, box(1, 0), True, False),
    'a small corner': (((0, 0), (4, 0), (0, 4)), box(1, 1, 3, 3), True, False),
}


class TwoPartsTests(unittest.TestCase):
    def test_overlap_and_joined(self):
        for told, (part, other, overlapping, joining) in PAIRS.items():
            with self.subTest(told):
                for one in told_from_each_corner(part):
                    for two in told_from_each_corner(other):
                        self.assertIs(overlap(one, two), overlapping)
                        self.assertIs(overlap(two, one), overlapping)
                        self.assertIs(joined(one, two), joining)
                        self.assertIs(joined(two, one), joining)

    def test_by_name(self):
        self.assertIs(overlap(other=box(1, 1), part=SQUARE), True)
        self.assertIs(joined(other=box(2, 0), part=SQUARE), True)

    def test_parts_by_chance(self):
        chance = random.Random(2)
        seen = set()
        for _ in range(400):
            part, other = random_part(chance, 3), random_part(chance, 3)
            other = tuple((x + 3, y) for x, y in other)
            expected = (do_overlap(part, other), are_joined(part, other))
            self.assertEqual((overlap(part, other), joined(part, other)), expected, (part, other))
            seen.add(expected)
        self.assertEqual(len(seen), 3)


class DifferencesTests(unittest.TestCase):
    def test_values(self):
        found = differences(((0, 0), (1, 0), (0, 1)), ((1, 0), (1, 1), (0, 1)))
        self.assertEqual(found, [(-1, 1), (0, 1), (1, -1), (1, 0), (1, 1)])

    def test_other_minus_part(self):
        found = differences(SQUARE, box(10, 20))
        self.assertEqual(found, [(x, y) for x in (8, 10, 12) for y in (18, 20, 22)])
        self.assertEqual(differences(other=SQUARE, part=box(10, 20)), [(-x, -y) for x, y in found[::-1]])

    def test_ascending_each_once_without_zero(self):
        chance = random.Random(3)
        for _ in range(50):
            part, other = random_part(chance, 3), random_part(chance, 3)
            pairs = {(y[0] - x[0], y[1] - x[1]) for y in other for x in part} - {(0, 0)}
            self.assertEqual(differences(part, other), sorted(pairs))

    def test_the_list_is_new(self):
        differences(SQUARE, box(2, 0)).clear()
        self.assertEqual(len(differences(SQUARE, box(2, 0))), 8)


class SideTests(unittest.TestCase):
    def check(self, part, other, direction, barred):
        found = side(part, other, direction)
        if barred:
            self.assertIsNone(found, (part, other, direction))
        else:
            self.assertIsInstance(found, tuple)
            self.assertTrue(is_side(found, part, other, direction), (part, other, direction, found))

    def test_beside(self):
        for direction, barred in [((1, 0), True), ((1, 999), True), ((1, -999), True), ((0, 1), False), ((0, -1), False),
                                  ((-1, 0), False), ((-1, 999), False)]:
            self.check(SQUARE, box(2, 0), direction, barred)

    def test_a_corner_alone(self):
        for direction, barred in [((1, 1), True), ((999, 1), True), ((1, 999), True), ((1, 0), False), ((0, 1), False),
                                  ((-1, 1), False), ((1, -1), False), ((-1, -1), False)]:
            self.check(SQUARE, box(2, 2), direction, barred)

    def test_apart(self):
        for direction, barred in [((1, 0), True), ((2, 1), True), ((3, 2), True), ((999, 998), True), ((1, 1), False),
                                  ((1, -1), False), ((0, 1), False), ((-1, 0), False), ((998, -999), False)]:
            self.check(SQUARE, box(4, 0), direction, barred)

    def test_parts_by_chance(self):
        chance = random.Random(4)
        seen = set()
        for _ in range(200):
            part, other = random_part(chance, 3), tuple((x + 5, y) for x, y in random_part(chance, 3))
            if overlap(part, other):
                continue
            for direction in SIX_DIRECTIONS:
                barred = bars_part(part, other, direction)
                self.check(part, other, direction, barred)
                self.check(other, part, (-direction[0], -direction[1]), barred)
                seen.add(barred)
        self.assertEqual(seen, {True, False})

    def test_the_ends_of_what_bars_do_not_bar(self):
        chance = random.Random(5)
        for _ in range(60):
            part, other = random_part(chance, 3), tuple((x + 6, y) for x, y in random_part(chance, 3))
            if overlap(part, other):
                continue
            for pair in differences(part, other):
                divisor = max(step for step in range(1, 20) if pair[0] % step == 0 == pair[1] % step)
                direction = (pair[0] // divisor, pair[1] // divisor)
                self.check(part, other, direction, bars_part(part, other, direction))

    def test_parts_that_overlap(self):
        for other in [SQUARE, box(1, 1), box(0, 1), box(-5, -5, 20, 20)]:
            for direction in SIX_DIRECTIONS:
                self.assertEqual(caught(side, SQUARE, other, direction), ('PartsOverlap', {'one': 0, 'other': 1}))

    def test_by_name_and_again(self):
        found = side(direction=(0, 1), other=box(2, 0), part=SQUARE)
        self.assertEqual(found, side(SQUARE, box(2, 0), (0, 1)))


if __name__ == '__main__':
    unittest.main()

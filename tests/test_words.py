import unittest

from samples import any_values
from stucklots.words import is_direction, is_name, is_number, is_point, is_way, number_in


class NameTests(unittest.TestCase):
    def test_right_names(self):
        for value in ['a', 'z', 'lid', 'aaaaaa', 'abcxyz']:
            self.assertIs(is_name(value), True, value)

    def test_lengths(self):
        self.assertEqual([is_name('a' * many) for many in (0, 1, 6, 7)], [False, True, True, False])

    def test_other_characters(self):
        for character in 'AZ09 _-.,+`{@\n~':
            for value in [character, 'a' + character, character + 'a', 'a' + character + 'b']:
                self.assertIs(is_name(value), False, value)

    def test_letters_of_other_alphabets(self):
        self.assertIs(is_name('\u00e4'), False)
        self.assertIs(is_name('a\u03b1'), False)

    def test_any_values(self):
        for value in [*any_values(), 0, 5, ['a'], ('a',), {'a': 'a'}]:
            self.assertIs(is_name(value), False, value)

    def test_by_name(self):
        self.assertIs(is_name(value='lid'), True)


class NumberTests(unittest.TestCase):
    def test_bounds(self):
        found = [is_number(value, -3, 5) for value in (-4, -3, 0, 5, 6)]
        self.assertEqual(found, [False, True, True, True, False])

    def test_one_number_and_none(self):
        self.assertIs(is_number(4, 4, 4), True)
        self.assertIs(is_number(4, 5, 3), False)

    def test_true_and_false_are_no_numbers(self):
        self.assertIs(is_number(True, 0, 1), False)
        self.assertIs(is_number(False, 0, 1), False)

    def test_any_values(self):
        for value in any_values():
            self.assertIs(is_number(value, -999999999, 999999999), False, value)

    def test_by_name(self):
        self.assertIs(is_number(most=9, least=1, value=9), True)
        self.assertIs(is_number(9, most=1, least=9), False)


class PointTests(unittest.TestCase):
    def test_right_points(self):
        for value in [(0, 0), (3, -7), (-200, 200), (200, -200), (200, 200), (-200, -200), (2, 4)]:
            self.assertIs(is_point(value), True, value)

    def test_beyond_the_bounds(self):
        for value in [(201, 0), (0, 201), (-201, 0), (0, -201), (201, 201), (999999999, 0)]:
            self.assertIs(is_point(value), False, value)

    def test_other_values(self):
        for value in any_values() + [0, [0, 0], [200, 200], (0, 0, 0), (0, [0]), (0, '0'), {0: 0}]:
            self.assertIs(is_point(value), False, value)

    def test_true_and_false_within(self):
        for value in [(True, 0), (0, False), (True, True), (False, False)]:
            self.assertIs(is_point(value), False, value)


class DirectionTests(unittest.TestCase):
    def test_right_directions(self):
        for value in [(1, 0), (0, 1), (-1, 0), (0, -1), (2, 3), (-999, 998), (999, -998), (1, 999), (-1, -999)]:
            self.assertIs(is_direction(value), True, value)

    def test_beyond_the_bounds(self):
        for value in [(1000, 1), (1, 1000), (-1000, 1), (1, -1000), (999999999, 1)]:
            self.assertIs(is_direction(value), False, value)

    def test_zero_and_common_divisors(self):
        for value in [(0, 0), (2, 0), (0, -3), (2, 4), (-2, 4), (-3, -3), (999, 999), (999, 0), (6, 9), (-999, 3)]:
            self.assertIs(is_direction(value), False, value)

    def test_other_values(self):
        for value in any_values() + [0, 1, [1, 0], (1, 0, 0), (1,), (1, [0]), ('1', 0), {1: 0}]:
            self.assertIs(is_direction(value), False, value)

    def test_true_and_false_within(self):
        for value in [(True, 0), (1, False), (True, True), (False, 1)]:
            self.assertIs(is_direction(value), False, value)


class WayTests(unittest.TestCase):
    def test_right_ways(self):
        for value in [((0, 0), (1, 0)), ((-200, 200), (-999, 998)), ((200, -200), (0, 1))]:
            self.assertIs(is_way(value), True, value)

    def test_wrong_point_or_direction(self):
        for value in [((201, 0), (1, 0)), ((0, -201), (1, 0)), ((0, 0), (0, 0)), ((0, 0), (2, 0)), ((0, 0), (1000, 1)),
                      ((True, 0), (1, 0)), ((0, 0), (True, 0)), ((0, 0), (1, False)), ((1, 0), (200, 300))]:
            self.assertIs(is_way(value), False, value)

    def test_other_values(self):
        for value in any_values() + [0, [(0, 0), (1, 0)], ([0, 0], (1, 0)), ((0, 0), [1, 0]),
                                     ((0, 0), (1, 0), (1, 0)), ((0, 0),), (0, 0, 1, 0)]:
            self.assertIs(is_way(value), False, value)


class NumberInTests(unittest.TestCase):
    def test_right_numbers(self):
        for value in [0, 1, 9, 10, 42, 100, 205, 999999999, -1, -10, -999999999, 123456789, -987654321]:
            found = number_in(str(value))
            self.assertEqual(found, value)
            self.assertIs(type(found), int)

    def test_zero(self):
        self.assertEqual([number_in(text) for text in ('0', '-0', '00', '+0')], [0, None, None, None])

    def test_wrong_forms(self):
        for text in ['', '-', '--1', '+1', '01', '-01', '007', ' 1', '1 ', '- 1', '1\n', '\n', ' ', '1_000', '1.0', '1e3',
                     '0x1', 'a', '1a', 'a1', '1-', '-1-', '1 2', '1,000', '\u0661', '\u00b2']:
            self.assertIsNone(number_in(text), text)

    def test_digits(self):
        self.assertEqual(number_in('100000000'), 100000000)
        self.assertEqual(number_in('-100000000'), -100000000)
        self.assertIsNone(number_in('1000000000'))
        self.assertIsNone(number_in('-1000000000'))

    def test_values_that_are_no_strings(self):
        for value in [None, True, False, 0, 7, -7, [], ['1'], (), ('1',), {}, {'1': 1}]:
            self.assertIsNone(number_in(value), value)

    def test_by_name(self):
        self.assertEqual(number_in(text='-12'), -12)


if __name__ == '__main__':
    unittest.main()

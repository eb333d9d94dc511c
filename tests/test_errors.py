import inspect
import unittest

from stucklots import errors

PARAMETERS = {
    'InvalidName': ('value',), 'InvalidNumber': ('value',), 'InvalidDirection': ('value',), 'InvalidPart': ('at',),
    'PartsOverlap': ('one', 'other'), 'Loose': ('at',), 'InvalidWay': ('at',), 'InvalidPiece': ('at',),
    'InvalidPeg': ('at',), 'PiecesOverlap': ('one', 'other'), 'DuplicateName': ('name',), 'TooMany': ('most',),
    'OutOfBounds': (), 'InvalidText': ('line', 'why'), 'InvalidLot': ('at',), 'OtherThing': (), 'InvalidStep': (),
    'NoParting': (), 'NoJoining': (), 'Barred': ('one', 'other'), 'Pegged': ('peg',), 'NotFast': ('peg',),
    'Held': ('peg',), 'NotStuck': ('step',), 'InvalidRow': ('at',), 'NeverLeaves': ('name',),
    'Refused': ('line', 'why'), 'InvalidPrices': (), 'InvalidDeed': ('at',),
    'UnknownName': ('name',), 'NothingLeft': (),
}
BASES = {'LotError': ValueError, 'Missing': LookupError, 'UnknownName': errors.Missing, 'NothingLeft': IndexError}


def any_values():
    return [None, True, 0, -5, 'x', '', ('a', 1), [1, [2]], {'k': [1]}, errors.OutOfBounds(), [[[[[[[[]]]]]]]]]


class ErrorTests(unittest.TestCase):
    def test_the_module_has_these_classes_and_no_others(self):
        found = {name for name, value in vars(errors).items() if inspect.isclass(value)}
        self.assertEqual(found, set(PARAMETERS) | {'LotError', 'Missing'})

    def test_direct_base_class(self):
        for name in [*PARAMETERS, 'LotError', 'Missing']:
            with self.subTest(name):
                self.assertEqual(getattr(errors, name).__bases__, (BASES.get(name, errors.LotError),))

    def test_no_class_is_below_another_one_but_as_listed(self):
        for name in [*PARAMETERS, 'LotError', 'Missing']:
            for other in [*PARAMETERS, 'LotError', 'Missing']:
                if name == other:
                    continue
                expected = BASES.get(name, errors.LotError) is getattr(errors, other)
                self.assertEqual(issubclass(getattr(errors, name), getattr(errors, other)), expected, (name, other))

    def test_very_values_by_position(self):
        for name, parameters in PARAMETERS.items():
            for value in any_values():
                values = [[value] for _ in parameters]
                error = getattr(errors, name)(*values)
                for parameter, passed in zip(parameters, values):
                    self.assertIs(getattr(error, parameter), passed)
                self.assertEqual(error.code, name)

    def test_very_values_by_name(self):
        for name, parameters in PARAMETERS.items():
            for value in any_values():
                values = {parameter: (value, parameter) for parameter in reversed(parameters)}
                error = getattr(errors, name)(**values)
                for parameter in parameters:
                    self.assertIs(getattr(error, parameter), values[parameter])
                self.assertEqual(error.code, name)
                self.assertEqual(set(vars(error)), {*parameters, 'code'})

    def test_plain_values_are_kept_as_they_are(self):
        for value in any_values():
            self.assertIs(errors.InvalidName(value).value, value)
            self.assertIs(errors.InvalidText(value, 'form').line, value)
            self.assertIs(errors.InvalidText(3, why=value).why, value)

    def test_another_number_of_values_is_refused(self):
        for name, parameters in PARAMETERS.items():
            with self.subTest(name):
                with self.assertRaises(TypeError):
                    getattr(errors, name)(*range(len(parameters) + 1))
                if parameters:
                    with self.assertRaises(TypeError):
                        getattr(errors, name)()

    def test_the_two_bases_have_no_code(self):
        self.assertFalse(hasattr(errors.LotError(), 'code'))
        self.assertFalse(hasattr(errors.Missing(), 'code'))
        self.assertFalse(hasattr(errors.LotError, 'code'))
        self.assertFalse(hasattr(errors.Missing, 'code'))

    def test_errors_can_be_raised_and_caught_by_their_bases(self):
        with self.assertRaises(ValueError) as caught:
            raise errors.InvalidText(4, 'form')
        self.assertEqual((caught.exception.line, caught.exception.why), (4, 'form'))
        with self.assertRaises(LookupError):
            raise errors.UnknownName('a')
        with self.assertRaises(IndexError):
            raise errors.NothingLeft()


if __name__ == '__main__':
    unittest.main()

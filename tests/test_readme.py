import doctest
import pathlib
import unittest

README = pathlib.Path(__file__).resolve().parent.parent / 'README.md'


def without_fences(text):
    return '\n'.join('' if line.startswith('```') else line for line in text.split('\n'))


class ReadmeTests(unittest.TestCase):
    def test_its_examples_are_true(self):
        test = doctest.DocTestParser().get_doctest(without_fences(README.read_text()), {}, 'README.md', None, 0)
        self.assertTrue(test.examples)
        self.assertEqual(doctest.DocTestRunner().run(test).failed, 0)


if __name__ == '__main__':
    unittest.main()

"""The examples of the document, word for word."""

import doctest
import pathlib
import unittest

README = pathlib.Path(__file__).resolve().parent.parent / 'README.md'

EXAMPLES = r"""
    >>> CAREFUL = ((5,), ((('take', 1), ('take', 0), ('out', 0)), (('out', 1), ('take', 0), ('out', 0))))
    >>> JUMPY = ((5,), ((('next', 0), ('take', 0), ('out', 0)),))
    >>> TENS = ((10,), ((('take', 0), ('take', 1), ('out', 0)), (('out', 1), ('out', 1), ('out', 1))))

    >>> from endclimbs.rulechecker import lets_rule
    >>> [lets_rule(CAREFUL), lets_rule(((), JUMPY[1]))]
    [2, 1]
    >>> lets_rule(((5,), ((('take', 0), ('next', 1), ('jump', 0)),)))
    raises InvalidPaper(word='next', at=(0, 1))

    >>> from endclimbs.rulechanges import shifted, with_mark, with_pair, with_phase, without_phase
    >>> [shifted(TENS, -3)[0], with_mark(CAREFUL, 2)[0], with_pair(JUMPY, 0, 'far', 'take', 0)[1]]
    [(7,), (2, 5), ((('next', 0), ('take', 0), ('take', 0)),)]
    >>> [without_phase(CAREFUL, 0)[1], with_phase(JUMPY, (('wait', 0), ('wait', 1), ('wait', 0)), at=0)[1][1]]
    [((('out', 0), ('take', 0), ('out', 0)),), (('next', 1), ('take', 1), ('out', 1))]

    >>> from endclimbs.endvalues import End, Range
    >>> [End(3) <= End(None), (End(3) + End(None)).value, (End(3) + 4).value, (-End(3)).value, bool(End(None)), str(End(-3))]
    [True, None, 7, -3, False, '-3']

    >>> [str(Range(None, 5) & Range(2, None)), str(Range(1, 2) | Range(5, 6)), str(-Range(None, 5)), str(Range(1, 2) + Range(5, None))]
    ['2..5', '1..6', '-5..-', '6..-']
"""


def told(error):
    """An error as the document writes it."""
    fields = ', '.join([f'{name}={value!r}' for name, value in vars(error).items()])
    return f'{type(error).__name__}({fields})'


def outcome(source, names):
    """What an expression gives, as the document writes it; None behind a statement."""
    try:
        try:
            code = compile(source, 'DOC.md', 'eval')
        except SyntaxError:
            exec(source, names)
            return None
        return repr(eval(code, names))
    except ValueError as error:
        return f'raises {told(error)}'


class ExamplesTest(unittest.TestCase):
    def test_each_example(self):
        names = {}
        lines = [line.strip() for line in EXAMPLES.split('\n')]
        for k, line in enumerate(lines):
            if line.startswith('>>> '):
                due = lines[k + 1]
                if due == '' or due.startswith('>>> '):
                    due = None
                with self.subTest(example=line):
                    self.assertEqual(outcome(line[4:], names), due)

    def test_the_examples_of_the_readme(self):
        found = doctest.testfile(str(README), module_relative=False)
        self.assertEqual(found.failed, 0)
        self.assertGreater(found.attempted, 0)


if __name__ == '__main__':
    unittest.main()

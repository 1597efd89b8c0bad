"""[16], [17] and [18] Ends and ranges as objects."""

import unittest

from endclimbs.endvalues import End, Range
from endclimbs.errors import InvalidText, NotUsable
from samples import NO_INTEGERS, ODD, Case

SIXTY = '9' * 60
ENDS = (None, 0, 1, -1, 7, -7, 10 ** 59, -10 ** 59)
INTEGER_WORDS = ('0', '5', '-5', '10', '-10', '1234567890', SIXTY, '-' + SIXTY, '1' + '0' * 59)
NO_WORDS = (
    '', ' ', '--', '-0', '00', '01', '-01', '007', '+5', '5 ', ' 5', '- 5', '5-', '--5', '5\n', '\n5', '-\n', '\n', '- ',
    ' -', '1.', '1_0', '1,0', 'x', '5x', '0x5', 'None', '1' * 61, '-' + '1' * 61, '0' * 60, '5 7', '1..2', '..')


class Other:
    """A value of no kind that the package knows."""


class EndTest(Case):
    def unusable(self, name, function, *args):
        self.fails(NotUsable, (name, -1), function, *args)

    def test_value(self):
        for value in ENDS:
            self.same(End(value).value, value)
        self.same(End(value=3).value, 3)
        for value in ODD + (End(3), Range(1, 2), Other()):
            self.unusable('value', End, value)

    def test_equal(self):
        for value in ENDS:
            for other in ENDS:
                self.same(End(value) == End(other), value == other)
                self.same(End(value) != End(other), value != other)
            for other in ODD + (value, Range(1, 1), Range(None, value), Other()):
                self.same(End(value) == other, False)
        self.same([End(1) == 1, End(1) == True, End(None) == None, None == End(None)], [False] * 4)

    def test_order(self):
        ordered = (-10 ** 59, -7, -1, 0, 1, 7, 10 ** 59, None)
        for k, value in enumerate(ordered):
            for m, other in enumerate(ordered):
                self.same(End(value) <= End(other), k <= m)
                self.same(End(value) >= End(other), k >= m)

    def test_order_with_other_values(self):
        for value in (None, 0, 3):
            for other in NO_INTEGERS + (0, 3, 10, Range(0, 3), Other()):
                self.unusable('other', lambda: End(value) <= other)
                self.unusable('other', lambda: End(value) >= other)

    def test_sum(self):
        for value in ENDS:
            for other in ENDS:
                due = None if value is None or other is None else value + other
                self.same((End(value) + End(other)).value, due)
                if other is not None:
                    self.same((End(value) + other).value, due)
        self.assertIs(type(End(1) + 2), End)

    def test_sum_with_other_values(self):
        for value in (None, 0, 3):
            for other in NO_INTEGERS + (Range(0, 3), Other()):
                self.unusable('other', lambda: End(value) + other)

    def test_negated_truth_and_text(self):
        for value in ENDS[1:]:
            self.same((-End(value)).value, -value)
            self.same(bool(End(value)), True)
            self.same(str(End(value)), repr(value))
        self.unusable('value', lambda: -End(None))
        self.same([bool(End(None)), str(End(None))], [False, '-'])

    def test_of(self):
        for value in ENDS:
            for end in (End.of(value), End.of(End(value)), End.of(end=value)):
                self.assertIs(type(end), End)
                self.same(end.value, value)
        for end in ODD + (Range(1, 2), Other()):
            self.unusable('end', End.of, end)

    def test_parsed(self):
        for word in INTEGER_WORDS:
            self.same(End.parsed(word).value, int(word))
            self.same(str(End.parsed(text=word)), word)
        self.same(End.parsed('-').value, None)
        self.assertIs(type(End.parsed('-')), End)
        for text in NO_WORDS:
            self.fails(InvalidText, (0, 0), End.parsed, text)

    def test_never_changes(self):
        end, other = End(3), End(4)
        (end + other, end + 5, -end, end <= other, str(end), End.of(end))
        with self.assertRaises(AttributeError):
            end.value = 5
        end += 4
        self.same([end.value, other.value], [7, 4])

    def test_static_methods(self):
        self.same([End(1).of(5).value, End(1).parsed('5').value, str(Range(1, 2).parsed('0..5'))], [5, 5, '0..5'])


BOUNDS = ((None, None), (None, -2), (None, 0), (None, 3), (-2, None), (0, None), (3, None), (0, 0), (0, 3), (-2, 0),
          (3, 3), (-2, 3), (1, 2), (-9, 9))
WINDOW = range(-30, 31)


def members(low, high):
    """The integers of a range in a window that is wider than all bounds of the tests and their sums."""
    return {x for x in WINDOW if (low is None or low <= x) and (high is None or x <= high)}


class RangeTest(Case):
    def unusable(self, name, function, *args):
        self.fails(NotUsable, (name, -1), function, *args)

    def bounds(self, one, low, high):
        self.assertIs(type(one), Range)
        self.same((one.low, one.high), (low, high))

    def test_bounds(self):
        for low, high in BOUNDS + ((-10 ** 59, 10 ** 59),):
            self.bounds(Range(low, high), low, high)
        self.bounds(Range(high=2, low=1), 1, 2)
        for low in ODD + (End(0), Range(0, 1)):
            for high in (None, 5, True, 'x'):
                self.unusable('low', Range, low, high)
        for high in ODD + (End(9), Range(0, 1), 2, -4):
            self.unusable('high', Range, 3, high)
        for high in ODD + (End(9),):
            self.unusable('high', Range, None, high)

    def test_in(self):
        for low, high in BOUNDS:
            for x in range(-12, 13):
                self.same(x in Range(low, high), x in members(low, high))
            for thing in NO_INTEGERS + (End(0), Range(0, 0), Other()):
                self.same(thing in Range(low, high), False)
        self.same([10 ** 59 in Range(0, None), -10 ** 59 in Range(None, 0), True in Range(0, 5)], [True, True, False])

    def test_equal(self):
        for bounds in BOUNDS:
            for others in BOUNDS:
                self.same(Range(*bounds) == Range(*others), bounds == others)
                self.same(Range(*bounds) != Range(*others), bounds != others)
            for other in ODD + (None, 0, bounds, End(bounds[0]), Other()):
                self.same(Range(*bounds) == other, False)

    def test_order_and_joins(self):
        for bounds in BOUNDS:
            for others in BOUNDS:
                one, other = Range(*bounds), Range(*others)
                mine, its = members(*bounds), members(*others)
                self.same(one <= other, mine <= its)
                self.same(one >= other, mine >= its)
                join = one | other
                self.assertIs(type(join), Range)
                self.assertEqual(members(join.low, join.high), set(range(min(mine | its), max(mine | its) + 1)))
                if mine & its:
                    both = one & other
                    self.assertIs(type(both), Range)
                    self.assertEqual(members(both.low, both.high), mine & its)
                else:
                    self.unusable('other', lambda: one & other)

    def test_sums(self):
        for low, high in BOUNDS:
            for more_low, more_high in BOUNDS:
                total = Range(low, high) + Range(more_low, more_high)
                self.bounds(total, None if None in (low, more_low) else low + more_low,
                            None if None in (high, more_high) else high + more_high)
            for by in (0, 5, -5, 10 ** 59):
                self.bounds(Range(low, high) + by, None if low is None else low + by, None if high is None else high + by)

    def test_signs_with_other_values(self):
        one = Range(0, 5)
        for other in NO_INTEGERS + (End(3), Other()):
            for sign in (lambda: one <= other, lambda: one >= other, lambda: one & other, lambda: one | other):
                self.unusable('other', sign)
            self.unusable('other', lambda: one + other)
        for sign in (lambda: one <= 3, lambda: one >= 3, lambda: one & 3, lambda: one | 3):
            self.unusable('other', sign)

    def test_negated(self):
        for low, high in BOUNDS:
            self.bounds(-Range(low, high), None if high is None else -high, None if low is None else -low)

    def test_text(self):
        texts = ((None, None, '-..-'), (None, -5, '-..-5'), (-5, None, '-5..-'), (0, 0, '0..0'), (-7, 12, '-7..12'))
        for low, high, text in texts + ((-int(SIXTY), int(SIXTY), f'-{SIXTY}..{SIXTY}'),):
            self.same(str(Range(low, high)), text)
            self.bounds(Range.parsed(text), low, high)
            self.bounds(Range.parsed(text=text), low, high)

    def test_texts_that_write_no_range(self):
        for text in NO_WORDS + ('1...2', '1..2..3', '..5', '5..', '5', '1.2', '2..1', '0..-1', '-1..-2', '1..2 ', ' 1..2'):
            if text != '1..2':
                self.fails(InvalidText, (0, 0), Range.parsed, text)
        for text in ('1 ..2', '1.. 2', '1..2\n', '\n1..2', '01..2', '1..02', '-0..5', '-5..-0', '1..2..', '..1..2', '....'):
            self.fails(InvalidText, (0, 0), Range.parsed, text)
        for word in ('1' * 61, '-' + '1' * 61):
            self.fails(InvalidText, (0, 0), Range.parsed, f'{word}..-')
            self.fails(InvalidText, (0, 0), Range.parsed, f'-..{word}')
        self.bounds(Range.parsed('1..2'), 1, 2)

    def test_never_changes(self):
        one, other = Range(0, 5), Range(2, None)
        (one & other, one | other, one + other, one + 3, -one, one <= other, 3 in one, str(one))
        for name in ('low', 'high'):
            with self.assertRaises(AttributeError):
                setattr(one, name, 1)
        kept = one
        one |= Range(9, 9)
        self.same([str(kept), str(one), str(other)], ['0..5', '0..9', '2..-'])

    def test_methods_stand_in_their_classes(self):
        for name in ('__init__', 'value', 'of', 'parsed', '__eq__', '__le__', '__ge__', '__add__', '__neg__', '__bool__'):
            self.assertIn(name, vars(End))
        self.assertIn('__str__', vars(End))
        for name in ('__init__', 'low', 'high', 'parsed', '__contains__', '__eq__', '__le__', '__ge__', '__and__'):
            self.assertIn(name, vars(Range))
        for name in ('__or__', '__add__', '__neg__', '__str__'):
            self.assertIn(name, vars(Range))


if __name__ == '__main__':
    unittest.main()

"""What the tests share: the rules of the document's examples, values of many kinds, and a test case."""

import unittest

CAREFUL = ((5,), ((('take', 1), ('take', 0), ('out', 0)), (('out', 1), ('take', 0), ('out', 0))))
JUMPY = ((5,), ((('next', 0), ('take', 0), ('out', 0)),))
TENS = ((10,), ((('take', 0), ('take', 1), ('out', 0)), (('out', 1), ('out', 1), ('out', 1))))
WAITER = ((10,), ((('wait', 1), ('out', 0), ('out', 0)), (('out', 0), ('wait', 1), ('out', 0))))
RULES = (CAREFUL, JUMPY, TENS, WAITER)

MOVES = ('take', 'next', 'out', 'wait')
CASES = ('near', 'at', 'far')
PHASE = (('take', 0), ('next', 0), ('out', 0))

# A value of each kind that is no integer, no end (but for None), no tuple that a function asks for.
ODD = (True, False, '', 'x', '0', '5', '-', 'take', 'near', (), (5,), (True,), [], [5], [0, 1], (None,), ('x',), ((),))
NO_INTEGERS = ODD + (None,)


def changed_at(rows, place, thing):
    """The tuple, nested as it is, with another thing at the place, a tuple of indexes."""
    first, *others = place
    new = changed_at(rows[first], others, thing) if others else thing
    return rows[:first] + (new,) + rows[first + 1:]


def places_in(rows, ahead=()):
    """All places in nested tuples, the tuples inside among them."""
    for k, thing in enumerate(rows):
        yield ahead + (k,)
        if isinstance(thing, tuple):
            yield from places_in(thing, ahead + (k,))


def at_place(rows, place):
    for k in place:
        rows = rows[k]
    return rows


class Case(unittest.TestCase):
    """A test case that compares values and fields with their kinds, so that True is not 1."""

    def same(self, got, due):
        self.assertEqual(repr(got), repr(due))

    def fails(self, error, fields, function, *args, **named):
        """The call has to raise this very error, with these fields."""
        with self.assertRaises(error) as caught:
            result = function(*args, **named)
            if hasattr(result, '__next__'):
                next(result)
        self.assertIs(type(caught.exception), error)
        self.assertEqual(repr(tuple(vars(caught.exception).values())), repr(fields))

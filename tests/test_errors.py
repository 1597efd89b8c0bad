"""[11] and the list of errors ahead of stage 1."""

import unittest

from endclimbs import errors
from endclimbs.errors import ClimbError, LiveError, PaperError, RuleError, TextError

FAMILIES = (PaperError, RuleError, LiveError, TextError)
ERRORS = (
    ('InvalidPaper', PaperError, ('word', 'at')),
    ('NotUsable', RuleError, ('word', 'at')),
    ('NotRising', RuleError, ('index',)),
    ('Restless', RuleError, ('rounds',)),
    ('InvalidEvent', LiveError, ('event', 'reason')),
    ('NothingToUndo', LiveError, ('steps',)),
    ('InvalidText', TextError, ('line', 'field')),
    ('InvalidRow', TextError, ('row',)),
)


class ErrorsTest(unittest.TestCase):
    def test_families(self):
        self.assertEqual(ClimbError.__bases__, (ValueError,))
        for family in FAMILIES:
            self.assertEqual(family.__bases__, (ClimbError,))

    def test_each_error_is_derived_directly_from_its_family(self):
        for name, family, _ in ERRORS:
            self.assertEqual(getattr(errors, name).__bases__, (family,))

    def test_all_is_defined_in_the_module(self):
        names = [name for name, _, _ in ERRORS] + ['ClimbError'] + [family.__name__ for family in FAMILIES]
        for name in names:
            self.assertEqual(getattr(errors, name).__module__, 'endclimbs.errors')

    def test_fields_by_position_and_by_name_are_the_very_objects(self):
        for name, _, fields in ERRORS:
            values = [[field, object()] for field in fields]
            for error in (getattr(errors, name)(*values), getattr(errors, name)(**dict(zip(fields, values)))):
                self.assertEqual(list(vars(error)), list(fields))
                for field, value in zip(fields, values):
                    self.assertIs(getattr(error, field), value)

    def test_exactly_its_fields(self):
        for name, _, fields in ERRORS:
            for many in (0, len(fields) - 1, len(fields) + 1):
                with self.assertRaises(TypeError):
                    getattr(errors, name)(*range(many))
            with self.assertRaises(TypeError):
                getattr(errors, name)(**{'other': 1})

    def test_each_can_be_raised_and_caught_as_its_family(self):
        for name, family, fields in ERRORS:
            for caught in (family, ClimbError, ValueError):
                with self.assertRaises(caught):
                    raise getattr(errors, name)(*fields)


if __name__ == '__main__':
    unittest.main()

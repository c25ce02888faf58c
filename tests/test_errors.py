import inspect
import unittest

from pieceswindow import errors

FAMILIES = {
    'PaperError': {'InvalidPaper': ('word', 'at')},
    'BookError': {'NotUsable': ('word', 'at'), 'Shut': ('ring',)},
    'LiveError': {'InvalidEvent': ('event', 'reason'), 'NothingToUndo': ('steps',)},
    'TextError': {'InvalidText': ('line', 'field'), 'InvalidRow': ('row',)},
}
ALL = [(family, name, fields) for family, row in FAMILIES.items() for name, fields in row.items()]


class TestErrors(unittest.TestCase):

    def test_base(self):
        self.assertEqual(errors.PieceError.__bases__, (ValueError,))

    def test_families(self):
        for family in FAMILIES:
            self.assertEqual(getattr(errors, family).__bases__, (errors.PieceError,))

    def test_derived_directly(self):
        for family, name, _ in ALL:
            self.assertEqual(getattr(errors, name).__bases__, (getattr(errors, family),))

    def test_nothing_else_is_there(self):
        found = [name for name, thing in vars(errors).items() if inspect.isclass(thing)]
        wanted = ['PieceError'] + list(FAMILIES) + [name for _, name, _ in ALL]
        self.assertEqual(sorted(found), sorted(wanted))

    def test_fields_are_the_very_objects(self):
        for _, name, fields in ALL:
            values = [[object(), [1]] for _ in fields]
            by_place = getattr(errors, name)(*values)
            by_name = getattr(errors, name)(**dict(zip(fields, values)))
            for field, value in zip(fields, values):
                self.assertIs(getattr(by_place, field), value)
                self.assertIs(getattr(by_name, field), value)
            self.assertEqual(sorted(vars(by_place)), sorted(fields))

    def test_any_values_are_kept(self):
        for value in (None, True, '', -1, (), [], 10 ** 59, ('a', [1])):
            self.assertIs(errors.Shut(value).ring, value)
            self.assertIs(errors.InvalidPaper(value, 0).word, value)
            self.assertIs(errors.InvalidPaper('shape', value).at, value)

    def test_just_its_fields(self):
        for _, name, fields in ALL:
            error = getattr(errors, name)
            self.assertEqual(list(inspect.signature(error).parameters), list(fields))
            for many in (len(fields) - 1, len(fields) + 1):
                with self.assertRaises(TypeError):
                    error(*['x'] * many)

    def test_raised_and_caught_by_family(self):
        for family, name, fields in ALL:
            for caught in (family, 'PieceError'):
                with self.assertRaises(getattr(errors, caught)):
                    raise getattr(errors, name)(*fields)
            with self.assertRaises(ValueError):
                raise getattr(errors, name)(*fields)


if __name__ == '__main__':
    unittest.main()

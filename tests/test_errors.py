"""The errors: their base classes, their attributes, made with any values ("Errors")."""

import inspect
import unittest

from innerfractions import errors
from error_table import ERRORS, HEADS


class Errors(unittest.TestCase):
    def test_heads(self):
        for name, base in HEADS.items():
            self.assertEqual(getattr(errors, name).__bases__, (base,), name)

    def test_direct_subclasses(self):
        for head, names in ERRORS.items():
            for name in names:
                self.assertEqual(getattr(errors, name).__bases__, (getattr(errors, head),), name)

    def test_no_others(self):
        listed = set(HEADS) | {name for names in ERRORS.values() for name in names}
        held = {name for name, value in vars(errors).items() if inspect.isclass(value)}
        self.assertEqual(held, listed)

    def test_defined_there(self):
        for names in ERRORS.values():
            for name in names:
                self.assertEqual(getattr(errors, name).__module__, "innerfractions.errors")

    def test_attributes_by_place_and_by_name(self):
        values = [None, True, -5, "text", b"bytes", [1, [2]], (1,), {"a": 1}, object(), ValueError]
        for names in ERRORS.values():
            for name, attributes in names.items():
                for at in range(len(values)):
                    given = [values[(at + shift) % len(values)] for shift in range(len(attributes))]
                    by_place = getattr(errors, name)(*given)
                    by_name = getattr(errors, name)(**dict(zip(attributes, given)))
                    for attribute, value in zip(attributes, given):
                        self.assertIs(getattr(by_place, attribute), value)
                        self.assertIs(getattr(by_name, attribute), value)

    def test_raised_and_caught_by_their_heads(self):
        for head, names in ERRORS.items():
            for name, attributes in names.items():
                with self.assertRaises(getattr(errors, head)):
                    raise getattr(errors, name)(*attributes)
                with self.assertRaises(HEADS[head]):
                    raise getattr(errors, name)(*attributes)

    def test_other_attributes_are_refused(self):
        for names in ERRORS.values():
            for name, attributes in names.items():
                if attributes:
                    with self.assertRaises(TypeError):
                        getattr(errors, name)()


if __name__ == "__main__":
    unittest.main()

"""The errors: their families, their classes, their fields."""

import unittest

from underthree import errors

FAMILIES = {
    "PaperError": {"InvalidPaper": ("word", "at")},
    "AskError": {"NotUsable": ("word", "at"), "OutOfOrder": ("one", "other")},
    "CuttingError": {"NoCutting": ("left",), "Beside": ("here", "there"), "NotRound": ("turn",)},
    "LiveError": {"InvalidEvent": ("event", "reason"), "NothingToUndo": ("steps",)},
    "TextError": {"InvalidText": ("line", "field"), "InvalidRow": ("row",)},
}


class TestErrors(unittest.TestCase):
    def test_base_and_families(self):
        self.assertEqual(errors.UnderError.__bases__, (ValueError,))
        for family in FAMILIES:
            self.assertEqual(getattr(errors, family).__bases__, (errors.UnderError,))

    def test_each_error_is_derived_directly_from_its_family(self):
        for family, members in FAMILIES.items():
            for name in members:
                self.assertEqual(getattr(errors, name).__bases__, (getattr(errors, family),))

    def test_no_other_errors(self):
        found = {name for name, value in vars(errors).items() if isinstance(value, type)}
        wanted = {"UnderError"} | set(FAMILIES) | {name for members in FAMILIES.values() for name in members}
        self.assertEqual(found, wanted)

    def test_all_are_defined_in_this_file(self):
        for name, value in vars(errors).items():
            if isinstance(value, type):
                self.assertEqual(value.__module__, "underthree.errors", name)

    def test_fields_are_the_very_objects(self):
        for members in FAMILIES.values():
            for name, fields in members.items():
                for values in ([[1], {}], [None, True], ["x", (1, [2])], [object(), -1]):
                    values = values[:len(fields)]
                    error = getattr(errors, name)(*values)
                    self.assertEqual(list(vars(error)), list(fields))
                    for field, value in zip(fields, values):
                        self.assertIs(getattr(error, field), value)
                    by_name = getattr(errors, name)(**dict(zip(fields, values)))
                    for field, value in zip(fields, values):
                        self.assertIs(getattr(by_name, field), value)

    def test_exactly_these_fields(self):
        for members in FAMILIES.values():
            for name, fields in members.items():
                with self.assertRaises(TypeError):
                    getattr(errors, name)(*[1] * (len(fields) - 1))
                with self.assertRaises(TypeError):
                    getattr(errors, name)(*[1] * (len(fields) + 1))

    def test_raised_and_caught_by_family(self):
        for family, members in FAMILIES.items():
            for name, fields in members.items():
                for kind in (ValueError, errors.UnderError, getattr(errors, family)):
                    with self.assertRaises(kind):
                        raise getattr(errors, name)(*range(len(fields)))


if __name__ == "__main__":
    unittest.main()

"""The names of the interface, each defined in its own file, and the classes of errors."""

import importlib
import unittest

from boxfew.errors import BadBook, BadPacking, BadText, BoxError, NoBox, NoPacking

NAMES = {
    "boxfew.books": ("need_book", "groups", "need_packing"),
    "boxfew.packings": ("is_good", "loads"),
    "boxfew.weighings": ("heavier",),
    "boxfew.cases": ("is_shown",),
    "boxfew.fewest": ("fewest", "shows"),
    "boxfew.refits": ("refit", "emptied"),
    "boxfew.spreads": ("counted", "spread"),
    "boxfew.texts": ("written", "read"),
    "boxfew.errors": ("BoxError", "BadBook", "BadPacking", "NoPacking", "NoBox", "BadText"),
}


class InterfaceTest(unittest.TestCase):
    def test_names_are_defined_in_their_files(self):
        for file, names in NAMES.items():
            module = importlib.import_module(file)
            for name in names:
                with self.subTest(file=file, name=name):
                    self.assertEqual(getattr(module, name).__module__, file)

    def test_classes_of_errors(self):
        self.assertEqual(BoxError.__bases__, (ValueError,))
        for error in (BadBook, BadPacking, NoPacking, NoBox, BadText):
            self.assertEqual(error.__bases__, (BoxError,))

    def test_fields_are_set_when_created(self):
        self.assertEqual(BadBook("room").why, "room")
        self.assertEqual(NoPacking([1, 2]).things, [1, 2])
        self.assertEqual(BadText(3).row, 3)
        for error in (BadPacking("so"), NoBox("so")):
            self.assertIsInstance(error, BoxError)

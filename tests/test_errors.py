"""The errors of the interface: their names, their base and their attributes."""

import unittest

from galloon import errors

ARGUMENTS = {
    "UnlikeSchemes": [],
    "BadScheme": ["part"],
    "BadColumn": ["text"],
    "BadSpots": ["text"],
    "BadStrip": ["text"],
    "BadPicture": ["line"],
    "BadRow": ["row"],
    "BadIndex": ["at"],
    "BadColour": ["colour"],
    "BadCount": ["count"],
    "BadPattern": ["place"],
    "BadTable": ["place"],
    "BadPair": ["index"],
    "TooMany": ["most"],
    "UnequalLengths": ["one", "other"],
    "BadPaint": ["row"],
    "BadMask": ["part"],
    "BadStamp": ["part"],
    "BadTurn": ["by"],
    "BadClause": ["index", "part"],
    "BadRule": [],
    "NoDrift": [],
    "BadFont": ["part"],
    "BadLetter": ["letter"],
    "BadGlyph": ["letter"],
    "DuplicateLetter": ["letter"],
    "UnknownLetter": ["letter", "place"],
    "UnequalFonts": ["letter"],
    "BadEndless": ["part"],
    "BadBlock": ["part"],
    "TooWide": [],
    "NoFold": ["length"],
    "UnequalFrames": ["index"],
    "UnknownWorld": ["world"],
    "BadName": ["name"],
    "TakenName": ["name"],
    "UnknownSheet": ["name"],
    "NoWorld": [],
    "UnknownFact": ["number"],
    "NothingToUndo": [],
    "NothingToRedo": [],
    "Refused": ["index"],
    "BadDeed": ["index"],
    "BadWorkshop": ["index"],
    "BadSigns": [],
}


class ErrorsTest(unittest.TestCase):
    def test_the_base_class(self):
        self.assertEqual(errors.GalloonError.__bases__, (ValueError,))

    def test_each_error_is_a_direct_subclass_of_the_base(self):
        for name in ARGUMENTS:
            self.assertEqual(getattr(errors, name).__bases__, (errors.GalloonError,), name)

    def test_there_are_no_other_classes(self):
        found = [name for name in vars(errors) if isinstance(getattr(errors, name), type)]
        self.assertEqual(sorted(found), sorted([*ARGUMENTS, "GalloonError"]))

    def test_the_attributes_have_the_names_of_the_arguments(self):
        for name, names in ARGUMENTS.items():
            given = [object() for _ in names]
            told = dict(zip(names, given))
            self.assertEqual(vars(getattr(errors, name)(*given)), told, name)
            self.assertEqual(vars(getattr(errors, name)(**told)), told, name)

    def test_wrong_numbers_of_arguments(self):
        for name, names in ARGUMENTS.items():
            if names:
                with self.assertRaises(TypeError):
                    getattr(errors, name)()
                with self.assertRaises(TypeError):
                    getattr(errors, name)(*names, 0)

    def test_an_error_is_caught_as_a_value_error_and_shows_what_it_is_about(self):
        with self.assertRaises(ValueError) as caught:
            raise errors.BadStrip("zz")
        self.assertIn("zz", str(caught.exception))


if __name__ == "__main__":
    unittest.main()

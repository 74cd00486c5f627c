"""Points 1 and 2: the errors of the interface."""

import copy
import unittest

from missesnone import errors

BASES = {
    "MissError": "ValueError",
    "TextError": "MissError",
    "Malformed": "TextError",
    "Misplaced": "TextError",
    "Unfit": "TextError",
    "TooMany": "TextError",
    "Unknown": "TextError",
    "Repeated": "TextError",
    "OtherFace": "MissError",
    "TooLarge": "MissError",
    "TooLong": "MissError",
    "WriteSame": "MissError",
    "BadEdit": "MissError",
    "BadTest": "MissError",
    "TooManyEdits": "MissError",
    "WorkshopFull": "MissError",
    "SuiteMisses": "MissError",
    "UnknownEdit": "MissError",
    "UnknownTest": "MissError",
    "BrokenChain": "MissError",
    "JournalError": "MissError",
    "Changed": "JournalError",
    "Impossible": "JournalError",
}

ATTRIBUTES = {
    "TextError": ("line",),
    "Malformed": ("line",),
    "Misplaced": ("line",),
    "Unfit": ("line",),
    "TooMany": ("line",),
    "Unknown": ("line", "word"),
    "Repeated": ("line", "word"),
    "SuiteMisses": ("number",),
    "UnknownEdit": ("number",),
    "UnknownTest": ("number",),
    "BrokenChain": ("index",),
    "JournalError": ("line",),
    "Changed": ("line",),
    "Impossible": ("line",),
}


class Errors(unittest.TestCase):
    def test_bases(self):
        for name, base in BASES.items():
            with self.subTest(name):
                self.assertEqual([kind.__name__ for kind in getattr(errors, name).__bases__], [base])

    def test_attributes(self):
        for name, attributes in ATTRIBUTES.items():
            with self.subTest(name):
                told = [7, "word"][:len(attributes)]
                error = getattr(errors, name)(*told)
                self.assertEqual([getattr(error, each) for each in attributes], told)
                self.assertEqual(vars(error), dict(zip(attributes, told)))

    def test_a_message_alone(self):
        for name in BASES:
            if name not in ATTRIBUTES:
                with self.subTest(name):
                    self.assertEqual(str(getattr(errors, name)("too many")), "too many")

    def test_copies_have_the_attributes_too(self):
        error = copy.deepcopy(errors.Unknown(3, "put"))
        self.assertEqual((error.line, error.word), (3, "put"))

    def test_raised_and_caught_by_their_bases(self):
        with self.assertRaises(errors.TextError):
            raise errors.Repeated(2, "put")
        with self.assertRaises(ValueError):
            raise errors.Changed(4)


if __name__ == "__main__":
    unittest.main()

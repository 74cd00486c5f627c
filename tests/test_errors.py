"""Points 1 and 2: the errors of the interface."""

import copy
import unittest

from missesnone import errors

BASES = {
    "MissError": "ValueError",
    "TextError": "MissError",
    "Malformed": "TextError",
    "Misplaced": "TextError",
    "Unfit": "TextError",
    "TooMany": "TextError",
    "Unknown": "TextError",
    "Repeated": "TextError",
    "OtherFace": "MissError",
    "TooLarge": "MissError",
    "TooLong": "MissError",
    "WriteSame": "MissError",
    "BadEdit": "MissError",
    "BadTest": "MissError",
    "TooManyEdits": "MissError",
    "WorkshopFull": "MissError",
    "SuiteMisses": "MissError",
    "UnknownEdit": "MissError",
    "UnknownTest": "MissError",
    "BrokenChain": "MissError",
    "JournalError": "MissError",
    "Changed": "JournalError",
    "Impossible": "JournalError",
}

ATTRIBUTES = {
    "TextError": ("line",),
    "Malformed": ("line",),
    "Misplaced": ("line",),
    "Unfit": ("line",),
    "TooMany": ("line",),
    "Unknown": ("line", "word"),
    "Repeated": ("line", "word"),
    "SuiteMisses": ("number",),
    "UnknownEdit": ("number",),
    "UnknownTest": ("number",),
    "BrokenChain": ("index",),
    "JournalError": ("line",),
    "Changed": ("line",),
    "Impossible": ("line",),
}


class Errors(unittest.TestCase):
    def test_bases(self):
        for name, base in BASES.items():
            with self.subTest(name):
                self.assertEqual([kind.__name__ for kind in getattr(errors, name).__bases__], [base])

    def test_each_is_of_its_own_class_and_of_none_of_the_others(self):
        above = {name: {name} for name in BASES}
        for name in BASES:
            base = BASES[name]
            while base != "ValueError":
                above[name].add(base)
                base = BASES[base]
        for name in BASES:
            told = [7, "word"][:len(ATTRIBUTES.get(name, ()))]
            error = getattr(errors, name)(*told)
            self.assertIs(type(error), getattr(errors, name))
            self.assertIsInstance(error, ValueError)
            self.assertEqual({each for each in BASES if isinstance(error, getattr(errors, each))}, above[name])

    def test_the_two_that_stand_above_others(self):
        for name, below in [
            ("TextError", {"Malformed", "Misplaced", "Unfit", "TooMany", "Unknown", "Repeated"}),
            ("JournalError", {"Changed", "Impossible"}),
        ]:
            self.assertEqual({each.__name__ for each in getattr(errors, name).__subclasses__()}, below)
        self.assertEqual({each.__name__ for each in errors.MissError.__subclasses__()}, {
            name for name, base in BASES.items() if base == "MissError"})

    def test_no_class_but_the_listed_ones(self):
        found = [name for name, each in vars(errors).items() if isinstance(each, type) and issubclass(each, Exception)]
        self.assertEqual(sorted(found), sorted(BASES))

    def test_attributes(self):
        for name, attributes in ATTRIBUTES.items():
            with self.subTest(name):
                told = [7, "word"][:len(attributes)]
                error = getattr(errors, name)(*told)
                self.assertEqual([getattr(error, each) for each in attributes], told)
                self.assertEqual(vars(error), dict(zip(attributes, told)))

    def test_a_message_alone(self):
        for name in BASES:
            if name not in ATTRIBUTES:
                with self.subTest(name):
                    self.assertEqual(str(getattr(errors, name)("too many")), "too many")

    def test_copies_have_the_attributes_too(self):
        error = copy.deepcopy(errors.Unknown(3, "put"))
        self.assertEqual((error.line, error.word), (3, "put"))

    def test_raised_and_caught_by_their_bases(self):
        with self.assertRaises(errors.TextError):
            raise errors.Repeated(2, "put")
        with self.assertRaises(ValueError):
            raise errors.Changed(4)


if __name__ == "__main__":
    unittest.main()

"""The errors: their classes, bases and attributes."""

import unittest

from worldsalone import errors

BASES = {
    "HostError": ValueError,
    "BadChoice": errors.HostError,
    "BadPaper": errors.HostError,
    "NoRoom": errors.HostError,
    "BadName": errors.HostError,
    "TwiceTold": errors.HostError,
    "BadMeaning": errors.HostError,
    "BadMachine": errors.HostError,
    "BadStart": errors.HostError,
    "BadBook": errors.HostError,
    "BadData": errors.HostError,
    "BadText": errors.HostError,
    "TooLong": errors.HostError,
    "NameMissing": LookupError,
    "UnknownName": errors.NameMissing,
    "UnknownWorld": errors.NameMissing,
    "NotThere": errors.NameMissing,
}
ATTRIBUTES = {
    "BadName": "name",
    "TwiceTold": "name",
    "BadMeaning": "word",
    "BadMachine": "word",
    "BadStart": "word",
    "BadText": "place",
    "TooLong": "limit",
    "UnknownName": "name",
    "UnknownWorld": "number",
    "NotThere": "number",
}
ANYTHING = (0, -7, True, None, "", "name", (), (1, (2,)), [1, [2]], {"a": {}}, errors.BadPaper())


class Errors(unittest.TestCase):
    def test_each_class_has_the_told_base_alone(self):
        for name, base in BASES.items():
            self.assertEqual(getattr(errors, name).__bases__, (base,), name)

    def test_nothing_more_is_exported(self):
        found = [name for name, thing in vars(errors).items() if isinstance(thing, type)]
        self.assertEqual(sorted(found), sorted(BASES))

    def test_names_that_are_missing_are_no_wrong_values(self):
        for name in ("NameMissing", "UnknownName", "UnknownWorld", "NotThere"):
            self.assertFalse(issubclass(getattr(errors, name), ValueError), name)
        self.assertFalse(issubclass(errors.HostError, LookupError))

    def test_attributes_are_what_was_passed(self):
        for name, attribute in ATTRIBUTES.items():
            for thing in ANYTHING:
                error = getattr(errors, name)(thing)
                self.assertIs(getattr(error, attribute), thing)

    def test_paths_are_kept_as_tuples(self):
        for made in (errors.BadBook, errors.BadData):
            for path in ([], [1, 2], (), (3,), ["any", None]):
                self.assertEqual(made(path).path, tuple(path))
                self.assertIsInstance(made(path).path, tuple)

    def test_a_path_that_was_a_list_may_be_changed_afterwards(self):
        path = [1]
        error = errors.BadBook(path)
        path.append(2)
        self.assertEqual(error.path, (1,))

    def test_errors_without_attributes(self):
        for made in (errors.HostError, errors.NameMissing, errors.BadChoice, errors.BadPaper, errors.NoRoom):
            self.assertIsInstance(made(), made)

    def test_errors_can_be_raised_and_caught_by_their_bases(self):
        with self.assertRaises(errors.HostError):
            raise errors.BadText(3)
        with self.assertRaises(LookupError):
            raise errors.NotThere(3)


if __name__ == "__main__":
    unittest.main()

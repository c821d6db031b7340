import unittest

from indoubt import errors

PLAIN = (
    "StringArithmetic", "MixedComparison", "ValueTooLarge", "TooManyRows", "ColumnsDiffer", "Contradiction",
    "InvalidBeginning", "BeginningIncomplete",
)
WITH_NAME = (
    "UnknownColumn", "DuplicateColumn", "UnknownTable", "KindsDiffer", "DuplicateName", "KeyMismatch", "RowMismatch",
    "AlreadyPrepared", "AlreadyDecided",
)
WITH_ANOTHER = (
    ("TooManyUndecided", "count", 7),
    ("NotCertain", "names", ("t1", "t2")),
    ("UnknownOutcome", "outcome", ("t1",)),
    ("UnknownOutcome", "outcome", ()),
    ("UnknownVersion", "number", -1),
    ("InvalidLine", "number", 6),
)
IN_TEXTS = (
    "UnexpectedCharacter", "NameTooLong", "NumberTooLarge", "StringNotClosed", "StringTooLong", "UnexpectedToken",
    "NestedTooDeeply",
)


class ErrorClasses(unittest.TestCase):
    def test_base_class(self):
        self.assertEqual(errors.IndoubtError.__bases__, (ValueError,))

    def test_direct_subclasses_of_the_base_class(self):
        others = tuple([name for name, _, _ in WITH_ANOTHER])
        for name in PLAIN + WITH_NAME + others + ("TextError",):
            with self.subTest(name):
                self.assertEqual(getattr(errors, name).__bases__, (errors.IndoubtError,))

    def test_subclasses_of_text_error(self):
        for name in IN_TEXTS:
            with self.subTest(name):
                self.assertEqual(getattr(errors, name).__bases__, (errors.TextError,))

    def test_there_are_no_other_classes(self):
        others = [name for name, _, _ in WITH_ANOTHER]
        listed = {"IndoubtError", "TextError", *PLAIN, *WITH_NAME, *others, *IN_TEXTS}
        found = {name for name, value in vars(errors).items() if isinstance(value, type)}
        self.assertEqual(found, listed)

    def test_each_class_is_defined_in_its_file(self):
        for name, value in vars(errors).items():
            if isinstance(value, type):
                with self.subTest(name):
                    self.assertEqual((value.__module__, value.__name__), ("indoubt.errors", name))


class Attributes(unittest.TestCase):
    def check(self, name, attribute, value):
        with self.subTest(name):
            with self.assertRaises(errors.IndoubtError) as caught:
                raise getattr(errors, name)(value)
            self.assertEqual(getattr(caught.exception, attribute), value)

    def test_errors_without_attributes(self):
        for name in PLAIN:
            with self.subTest(name), self.assertRaises(errors.IndoubtError):
                raise getattr(errors, name)()

    def test_name(self):
        for name in WITH_NAME:
            self.check(name, "name", "account")

    def test_other_attributes(self):
        for name, attribute, value in WITH_ANOTHER:
            self.check(name, attribute, value)

    def test_place(self):
        for name in IN_TEXTS + ("TextError",):
            self.check(name, "place", 25)


if __name__ == "__main__":
    unittest.main()

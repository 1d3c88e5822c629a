"""The errors: their base classes and fields."""

import unittest

from oneowner import errors

OF_TEXTS = ("BadCharacter", "BadNumber", "Unexpected")
OF_PROGRAMS = ("DoubleName", "UnknownName", "WrongKind", "WrongCount", "Endless", "NotWhole")
ALL = ("OwnerError", "TextError", "ProgramError", "Refused") + OF_TEXTS + OF_PROGRAMS


def class_of(name):
    return getattr(errors, name)


class ErrorTest(unittest.TestCase):

    def test_each_class_is_defined_in_its_file(self):
        for name in ALL:
            with self.subTest(name):
                self.assertEqual(class_of(name).__name__, name)
                self.assertEqual(class_of(name).__module__, "oneowner.errors")

    def test_base_classes(self):
        self.assertEqual(errors.OwnerError.__bases__, (ValueError,))
        for name in ("TextError", "ProgramError", "Refused"):
            with self.subTest(name):
                self.assertEqual(class_of(name).__bases__, (errors.OwnerError,))
        for name in OF_TEXTS:
            with self.subTest(name):
                self.assertEqual(class_of(name).__bases__, (errors.TextError,))
        for name in OF_PROGRAMS:
            with self.subTest(name):
                self.assertEqual(class_of(name).__bases__, (errors.ProgramError,))

    def test_text_errors_have_row_and_column(self):
        for name in ("TextError",) + OF_TEXTS:
            with self.subTest(name):
                error = class_of(name)(3, 14)
                self.assertEqual((error.row, error.column), (3, 14))
                error = class_of(name)(row=5, column=1)
                self.assertEqual((error.row, error.column), (5, 1))

    def test_program_errors_have_a_word(self):
        for name in ("ProgramError",) + OF_PROGRAMS:
            with self.subTest(name):
                self.assertEqual(class_of(name)("main").word, "main")
                self.assertEqual(class_of(name)(word="=").word, "=")

    def test_refused_has_its_four_fields(self):
        for error in (
            errors.Refused(1, 2, -1, "paper"),
            errors.Refused(function=1, block=2, index=-1, word="paper"),
        ):
            self.assertEqual((error.function, error.block, error.index, error.word), (1, 2, -1, "paper"))

    def test_each_number_of_refused_has_its_own_field(self):
        error = errors.Refused(4, 3, 2, "there")
        self.assertEqual((error.function, error.block, error.index), (4, 3, 2))

    def test_all_are_caught_as_owner_error_and_as_value_error(self):
        made = [class_of(name)(1, 2) for name in ("TextError",) + OF_TEXTS]
        made += [class_of(name)("x") for name in ("ProgramError",) + OF_PROGRAMS]
        made += [errors.Refused(0, 0, 0, "there")]
        for error in made:
            for base in (errors.OwnerError, ValueError):
                with self.subTest(error=error.__class__.__name__, base=base.__name__):
                    with self.assertRaises(base) as caught:
                        raise error
                    self.assertIs(caught.exception, error)

    def test_errors_of_one_part_are_not_those_of_another(self):
        self.assertFalse(issubclass(errors.TextError, errors.ProgramError))
        self.assertFalse(issubclass(errors.Refused, (errors.TextError, errors.ProgramError)))


if __name__ == "__main__":
    unittest.main()

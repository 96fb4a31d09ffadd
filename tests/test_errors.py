import unittest

from topletter import errors

PLAIN = ("InvalidNumber", "NoLetters", "NoAnswer", "AlreadyOpen", "Contradiction", "InvalidCount")
WITH_ATTRIBUTES = {
    "InvalidTimetable": ("index",),
    "UnknownLetter": ("letter",),
    "InvalidOperation": ("index",),
    "NotationError": ("row", "word"),
    "DecodeError": ("offset",),
}


class ErrorClasses(unittest.TestCase):
    def test_base_class_is_a_direct_value_error(self):
        self.assertEqual(errors.PileError.__bases__, (ValueError,))

    def test_all_others_are_direct_subclasses_of_the_base(self):
        for name in PLAIN + tuple(WITH_ATTRIBUTES):
            with self.subTest(name=name):
                self.assertEqual(getattr(errors, name).__bases__, (errors.PileError,))

    def test_nothing_else_is_an_error_of_the_package(self):
        found = {name for name, value in vars(errors).items() if isinstance(value, type)}
        self.assertEqual(found, {"PileError", *PLAIN, *WITH_ATTRIBUTES})

    def test_all_are_defined_in_this_file(self):
        for name in ("PileError",) + PLAIN + tuple(WITH_ATTRIBUTES):
            self.assertEqual(getattr(errors, name).__module__, "topletter.errors")

    def test_plain_errors_are_made_with_and_without_a_text(self):
        for name in ("PileError",) + PLAIN:
            with self.subTest(name=name):
                made = getattr(errors, name)
                self.assertEqual(str(made("words")), "words")
                self.assertEqual(vars(made()), {})

    def test_attributes_are_set_when_the_error_is_created(self):
        for name, attributes in WITH_ATTRIBUTES.items():
            with self.subTest(name=name):
                values = tuple(range(3, 3 + len(attributes)))
                error = getattr(errors, name)(*values)
                self.assertEqual(vars(error), dict(zip(attributes, values)))
                self.assertTrue(str(error))

    def test_attributes_are_also_the_names_of_the_arguments(self):
        self.assertEqual(errors.NotationError(word=2, row=1).word, 2)
        self.assertEqual(errors.InvalidTimetable(index=1).index, 1)

    def test_unknown_letter_keeps_whatever_was_given(self):
        for letter in (None, "a", True, (1, 2), 10 ** 5000):
            self.assertIs(errors.UnknownLetter(letter).letter, letter)


if __name__ == "__main__":
    unittest.main()

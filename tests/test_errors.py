"""The errors: point 5 and the interface."""

from tests.support import Case

from meanhold import errors

PLAIN = ["BadSize", "BadNumber", "BadKind", "BadChance", "BadTarget", "NoCircle",
         "NotRight", "NothingToUndo", "NothingToRedo"]
FIELDS = {"NoBranch": "at", "BadEntry": "place"}


class Errors(Case):
    def test_gain_error_stands_under_value_error(self):
        self.assertEqual(errors.GainError.__bases__, (ValueError,))

    def test_each_class_stands_directly_under_gain_error(self):
        for name in PLAIN + list(FIELDS):
            self.assertEqual(getattr(errors, name).__bases__, (errors.GainError,), name)

    def test_an_error_is_of_no_other_class(self):
        for name in PLAIN + list(FIELDS):
            made = getattr(errors, name)(*([3] if name in FIELDS else []))
            for other in PLAIN + list(FIELDS):
                self.assertEqual(isinstance(made, getattr(errors, other)), name == other)

    def test_plain_errors_are_made_with_no_argument(self):
        for name in PLAIN:
            with self.assertRaises(errors.GainError) as caught:
                raise getattr(errors, name)()
            self.assertIs(type(caught.exception), getattr(errors, name))

    def test_the_field_is_just_what_was_handed_in(self):
        for name, field in FIELDS.items():
            for value in (0, 7, -3, 10 ** 40, None, "word", [1, [2]], (1, 2), True):
                made = getattr(errors, name)(value)
                self.assertIs(getattr(made, field), value)

    def test_the_argument_has_the_name_of_the_field(self):
        self.assertEqual(errors.NoBranch(at=4).at, 4)
        self.assertEqual(errors.BadEntry(place=5).place, 5)

    def test_errors_with_a_field_need_it(self):
        for name in FIELDS:
            with self.assertRaises(TypeError):
                getattr(errors, name)()

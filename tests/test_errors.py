"""Point 2 and the interface of oncewire.errors."""

import unittest

from oncewire import errors

PLAIN = (
    "TooLong NoAgent NoPort Tied NoMove NoRule NoDef NotShown NoSymbol NoRoom NoRun NoLine NoRow "
    "BadProgram BadName Twice BadParcel NoMark BadDeed"
).split()


class Refusals(unittest.TestCase):

    def test_once_error_is_a_value_error(self):
        self.assertEqual(errors.OnceError.__bases__, (ValueError,))
        self.assertEqual(str(errors.OnceError("so")), "so")

    def test_each_stands_right_under_once_error(self):
        for name in PLAIN + ["NoText", "NoKind"]:
            self.assertEqual(getattr(errors, name).__bases__, (errors.OnceError,), name)

    def test_there_are_no_others(self):
        found = [name for name, thing in vars(errors).items() if isinstance(thing, type)]
        self.assertEqual(sorted(found), sorted(PLAIN + ["OnceError", "NoText", "NoKind"]))

    def test_plain_ones_are_made_of_a_text(self):
        for name in PLAIN:
            with self.assertRaises(getattr(errors, name)) as caught:
                raise getattr(errors, name)("the words")
            self.assertEqual(str(caught.exception), "the words")

    def test_each_is_caught_by_its_own_class_alone(self):
        for name in PLAIN:
            for other in PLAIN:
                made = getattr(errors, name)("x")
                self.assertEqual(isinstance(made, getattr(errors, other)), name == other)

    def test_fields_of_no_text(self):
        for at in (0, 17, None, "a", [1]):
            self.assertIs(errors.NoText(at).at, at)
            self.assertIs(errors.NoText(at=at).at, at)
        with self.assertRaises(errors.NoText):
            raise errors.NoText(3)

    def test_fields_of_no_kind(self):
        rows = [("f", 0, "name"), (None, 199, "unused"), ([], {}, ())]
        for name, at, why in rows:
            for made in (errors.NoKind(name, at, why), errors.NoKind(why=why, name=name, at=at)):
                self.assertIs(made.name, name)
                self.assertIs(made.at, at)
                self.assertIs(made.why, why)
        with self.assertRaises(errors.OnceError):
            raise errors.NoKind("f", 0, "name")

    def test_fields_are_needed(self):
        for make in (errors.NoText, errors.NoKind):
            with self.assertRaises(TypeError):
                make()


if __name__ == "__main__":
    unittest.main()

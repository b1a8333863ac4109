"""The refusals: their classes, fields and bases."""

import unittest

from unwritparts import errors

BASES = {
    "NoTerm": ValueError,
    "TooMuch": OverflowError,
    "NoName": TypeError,
    "Loose": ArithmeticError,
    "Written": LookupError,
    "NoPart": KeyError,
    "Full": IndexError,
    "Bare": RuntimeError,
    "NoLack": NotImplementedError,
    "NoPaper": Exception,
    "NoParcel": ValueError,
    "NoRow": ValueError,
}
FIELDS = {
    "NoTerm": ("spot", 3),
    "TooMuch": ("what", "deep"),
    "NoName": ("name", "p"),
    "Loose": ("names", ("a", "x")),
    "Written": ("name", "P"),
    "NoPart": ("name", "P"),
    "Full": ("most", 60),
    "NoLack": ("kind", "word"),
    "NoPaper": ("kind", "waits"),
    "NoRow": ("row", "sing"),
}
THINGS = (0, -1, 10 ** 59, True, False, None, "", "p", [], (), [1, [True, ("x", [])]], (1, (None, ["y"])))


class ErrorsTest(unittest.TestCase):
    def test_each_stands_straight_under_its_class_of_python(self):
        for name, base in BASES.items():
            with self.subTest(name):
                self.assertEqual(getattr(errors, name).__bases__, (base,))
                self.assertEqual(getattr(errors, name).__module__, "unwritparts.errors")

    def test_none_stands_under_another_one(self):
        for one in BASES:
            for other in BASES:
                if one != other:
                    self.assertFalse(issubclass(getattr(errors, one), getattr(errors, other)), (one, other))

    def test_each_has_its_field(self):
        for name, (field, thing) in FIELDS.items():
            with self.subTest(name):
                error = getattr(errors, name)
                self.assertEqual(getattr(error(thing), field), thing)
                self.assertEqual(getattr(error(**{field: thing}), field), thing)

    def test_full_has_sixty_of_itself(self):
        self.assertEqual(errors.Full().most, 60)

    def test_those_without_a_field_are_raised_too(self):
        for error in (errors.Bare, errors.NoParcel):
            with self.assertRaises(error):
                raise error()

    def test_fields_tell_any_thing_as_it_was(self):
        for error, field in ((errors.NoName, "name"), (errors.NoPart, "name"), (errors.NoRow, "row")):
            for thing in THINGS:
                with self.subTest(error=error, thing=thing):
                    told = getattr(error(thing), field)
                    self.assertEqual(repr(told), repr(thing))

    def test_no_list_is_kept(self):
        for error, field in ((errors.NoName, "name"), (errors.NoPart, "name"), (errors.NoRow, "row")):
            with self.subTest(error):
                inner = ["x"]
                thing = [inner, (inner, 1)]
                refusal = error(thing)
                inner.append("y")
                thing.append(2)
                self.assertEqual(getattr(refusal, field), [["x"], (["x"], 1)])

    def test_names_are_a_tuple(self):
        self.assertEqual(errors.Loose(["a", "b"]).names, ("a", "b"))

    def test_they_are_equal_to_themselves_alone_and_true(self):
        one = errors.NoTerm(3)
        self.assertTrue(one)
        self.assertEqual(one, one)
        self.assertNotEqual(one, errors.NoTerm(3))


if __name__ == "__main__":
    unittest.main()

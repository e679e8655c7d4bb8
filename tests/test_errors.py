"""The errors: their bases, their arguments as attributes."""

import unittest

from bitloom import errors

PLACED = {
    "BadText": ("place",),
    "BadTree": ("path",),
    "BadDesign": ("word", "where", "path"),
    "BadRing": ("names",),
    "BadFlat": ("path",),
    "BadGraph": ("path",),
    "BadNet": ("path",),
    "BadFabric": ("path",),
    "BadLaid": ("word", "number"),
    "BadBits": ("place",),
    "BadClauses": ("path",),
    "BadTrace": ("line",),
    "BadConfig": ("path",),
    "NotStill": ("things",),
    "NotWhole": (),
    "NoMachine": (),
    "NotReady": ("fault",),
    "NoRoom": ("word",),
    "TooGreat": (),
    "BadAct": ("word",),
    "NothingDone": (),
}


class ErrorsTest(unittest.TestCase):
    def test_bases(self):
        self.assertEqual(errors.LoomError.__bases__, (ValueError,))
        self.assertEqual(errors.NameMissing.__bases__, (LookupError,))
        self.assertEqual(errors.UnknownName.__bases__, (errors.NameMissing,))
        self.assertFalse(issubclass(errors.LoomError, LookupError))
        self.assertFalse(issubclass(errors.NameMissing, (errors.LoomError, ValueError)))
        for name in PLACED:
            self.assertEqual(getattr(errors, name).__bases__, (errors.LoomError,), name)

    def test_all_are_defined_there(self):
        names = {name for name, value in vars(errors).items() if isinstance(value, type)}
        self.assertEqual(names, {*PLACED, "LoomError", "NameMissing", "UnknownName"})
        self.assertTrue(all(getattr(errors, name).__module__ == "bitloom.errors" for name in names))

    def test_arguments_are_attributes(self):
        for name, arguments in PLACED.items():
            kept = [("p", 1), ("p", 2), ("p", 3)][: len(arguments)]
            fault = getattr(errors, name)(*kept)
            self.assertEqual(vars(fault), dict(zip(arguments, kept)), name)
        self.assertEqual(errors.UnknownName([1]).name, [1])

    def test_path_and_names_are_tuples(self):
        for name in ("BadTree", "BadFlat", "BadGraph", "BadNet", "BadFabric", "BadClauses", "BadConfig"):
            self.assertEqual(getattr(errors, name)([1, 2]).path, (1, 2))
            self.assertIs(type(getattr(errors, name)([]).path), tuple)
        fault = errors.BadDesign(["w"], ["x"], [0, 1])
        self.assertEqual((fault.word, fault.where, fault.path), (["w"], ["x"], (0, 1)))
        self.assertEqual(errors.BadRing(["a", "b"]).names, ("a", "b"))

    def test_all_else_is_kept_as_it_is(self):
        things = [1, [2]]
        self.assertIs(errors.NotStill(things).things, things)
        self.assertIs(errors.NotReady(things).fault, things)
        self.assertIs(errors.BadText(things).place, things)
        self.assertIs(errors.BadLaid("cell", things).number, things)


if __name__ == "__main__":
    unittest.main()

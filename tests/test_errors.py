"""[1] and beatwires/errors.py: the classes and their attributes."""

import unittest

from beatwires import errors
from beatwires.errors import BadCircuit, BadDesign, BadFormula, BadText, BeatError, Looped, NoPart, Unlike

ALL = ("BadCircuit", "Looped", "BadRow", "BadState", "BadFormula", "BadOrder", "BadDiagram", "BadText", "Unlike",
       "NoPart", "BadDesign")


class TestErrors(unittest.TestCase):
    def test_base(self):
        self.assertEqual(BeatError.__bases__, (ValueError,))

    def test_direct_subclasses(self):
        for name in ALL:
            self.assertEqual(getattr(errors, name).__bases__, (BeatError,), name)

    def test_nothing_else(self):
        self.assertEqual(sorted(ALL), sorted(found.__name__ for found in BeatError.__subclasses__()
                                             if found.__module__ == "beatwires.errors"))

    def test_attributes(self):
        self.assertEqual(BadCircuit("a").name, "a")
        self.assertIsNone(BadCircuit(None).name)
        self.assertEqual(Looped(["a", "b"]).names, ["a", "b"])
        self.assertEqual(BadFormula("x").name, "x")
        told = BadText(3, 7)
        self.assertEqual((told.line, told.column), (3, 7))
        self.assertEqual(Unlike("inputs").what, "inputs")
        self.assertEqual(NoPart("p").name, "p")
        told = BadDesign("m", "x", "width")
        self.assertEqual((told.module, told.name, told.why), ("m", "x", "width"))

    def test_names_are_copied(self):
        given = ["a"]
        told = Looped(given)
        given.append("b")
        self.assertEqual(told.names, ["a"])


if __name__ == "__main__":
    unittest.main()

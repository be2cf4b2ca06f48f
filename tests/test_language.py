"""The form of the package: the rules of ../shared/LANGUAGE.md that a tree of code shows."""

import unittest

from tests import languagerules


class TestLanguage(unittest.TestCase):
    def test_the_package(self):
        self.assertGreater(len(languagerules.files()), 5)
        self.assertEqual(languagerules.faults(), [])


if __name__ == "__main__":
    unittest.main()

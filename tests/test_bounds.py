"""The bounds of the interface."""

import unittest

from meshmend import bounds


class BoundsTest(unittest.TestCase):
    def test_bounds_are_as_the_interface_lists_them(self):
        found = [bounds.MAX_SIDE, bounds.MAX_WRONG, bounds.MAX_EDGE, bounds.MAX_DEEDS]
        self.assertEqual(repr(found), "[8, 8, 200, 30]")


if __name__ == "__main__":
    unittest.main()

"""The refusals, as the interface lists them."""

import unittest

from stillcopy import errors

PLAIN = ["BadHand", "BadLetter", "BadTime", "BadKey", "BadHouse", "NoCopy", "BadBlock", "BadEntry", "Stopped"]
VALUED = {"BadDeal": "place", "Behind": "number", "BadText": "row"}


class Errors(unittest.TestCase):
    def test_family(self):
        self.assertEqual(errors.StillError.__bases__, (ValueError,))
        for name in PLAIN + list(VALUED):
            self.assertEqual(getattr(errors, name).__bases__, (errors.StillError,), name)

    def test_values(self):
        for name, value in VALUED.items():
            error = getattr(errors, name)(3)
            self.assertEqual(getattr(error, value), 3)
            self.assertTrue(str(error))

    def test_plain(self):
        for name in PLAIN:
            self.assertEqual(str(getattr(errors, name)("why")), "why")


if __name__ == "__main__":
    unittest.main()

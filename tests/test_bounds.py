"""The numbers of the interface, surelyorders/bounds.py."""

import unittest

from surelyorders import bounds

NUMBERS = {
    "MAX_LETTERS": 3,
    "MAX_STATES": 40,
    "MAX_FEW": 8,
    "MAX_LIST": 40,
    "MAX_LENGTH": 400,
    "MAX_EDITS": 60,
    "BATCH": 20,
}


class BoundsTest(unittest.TestCase):
    def test_each_number(self):
        for name, number in NUMBERS.items():
            with self.subTest(name=name):
                self.assertIs(type(getattr(bounds, name)), int)
                self.assertEqual(getattr(bounds, name), number)


if __name__ == "__main__":
    unittest.main()

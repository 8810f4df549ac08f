"""The limits of sewnwhole.limits."""

import unittest

from sewnwhole import limits

VALUES = {
    "SIDE": 10,
    "NAMES": 52,
    "CELL_SIZE": 40,
    "ALLOWANCE": 10,
    "PIECES": 9,
    "PIECE": 1000,
    "BOLT": 2000,
    "ORDERS": 60,
    "PURCHASE": 1000000,
    "STOCK": 1000000000,
}


class LimitsTest(unittest.TestCase):
    def test_names_and_values(self):
        self.assertEqual({name: value for name, value in vars(limits).items() if name.isupper()}, VALUES)

    def test_all_are_integers(self):
        for name in VALUES:
            self.assertIs(type(getattr(limits, name)), int, name)


if __name__ == "__main__":
    unittest.main()

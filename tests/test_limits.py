"""The limits: each value, and that they are integers."""

import unittest

from forcedsteer import limits

VALUES = {
    "MOST_PARTS": 8, "MOST_TIES": 56, "MOST_STRENGTH": 1000000, "MOST_DAYS": 12,
    "MOST_OFFERS": 6, "MOST_DOUBTS": 6, "MOST_SEEN": 12,
}


class LimitsTest(unittest.TestCase):
    def test_each_limit_has_its_value(self):
        for name, value in VALUES.items():
            with self.subTest(name=name):
                self.assertEqual(getattr(limits, name), value)
                self.assertIs(type(getattr(limits, name)), int)

    def test_there_are_no_other_limits(self):
        found = [name for name in vars(limits) if name.startswith("MOST")]
        self.assertEqual(sorted(found), sorted(VALUES))


if __name__ == "__main__":
    unittest.main()

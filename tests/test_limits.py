"""Point 101."""

import unittest

from heldflows import limits

VALUES = {
    "MOST_CLIENTS": 6,
    "MOST_AGENTS": 6,
    "MOST_MUXES": 3,
    "BUCKETS": 16,
    "MOST_COUNT": 1000000,
    "MOST_STREAM": 4000,
    "MOST_DATA": 8,
    "WINDOW": 32,
    "MOST_HOPS": 8,
    "MOST_WORD": 12,
    "MOST_INTEGER": 4294967295,
    "MOST_NESTED": 16,
    "MOST_BYTES": 60000,
}


class LimitsTest(unittest.TestCase):
    def test_each_name_has_its_value(self):
        for name, value in VALUES.items():
            with self.subTest(name=name):
                self.assertIs(type(getattr(limits, name)), int)
                self.assertEqual(getattr(limits, name), value)

    def test_there_are_no_other_names(self):
        self.assertEqual({name for name in vars(limits) if not name.startswith("_")}, set(VALUES))


if __name__ == "__main__":
    unittest.main()

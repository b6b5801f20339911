"""Points 103 and 104: the limits and the reasons of a refusal."""

import unittest

from sealchart import limits

TABLE = {
    "MOST_NUMBER": 1000000000000,
    "MOST_DIGITS": 20,
    "MOST_DEPTH": 8,
    "MOST_TEXT": 100000,
    "MOST_KEYS": 16,
    "MOST_SEALS": 32,
    "MOST_GOODS": 64,
    "MOST_CHARTER": 4000,
    "MOST_STAMP": 2000,
    "MOST_LISTS": 32,
    "MOST_TURNS": 16,
    "MOST_PATH": 60,
}


class Limits(unittest.TestCase):
    def test_each_integer_of_the_table(self):
        for name, value in TABLE.items():
            with self.subTest(name):
                self.assertIs(type(getattr(limits, name)), int)
                self.assertEqual(getattr(limits, name), value)

    def test_the_table_is_whole(self):
        self.assertEqual({name for name in vars(limits) if name.startswith("MOST_")}, set(TABLE))


class Reasons(unittest.TestCase):
    def test_the_reasons_in_their_order(self):
        self.assertIs(type(limits.REASONS), tuple)
        self.assertEqual(
            limits.REASONS,
            ("form", "seals", "version", "length", "digest", "role", "expired", "missing"),
        )


if __name__ == "__main__":
    unittest.main()

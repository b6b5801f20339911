"""Point 111: the digest of a string."""

import unittest

from sealchart.digests import DIGEST_LENGTH, digest

PER_CENT = chr(37)
DIVISOR = 2361183241434822606617

# Texts with their digests, found by the long sum of expected().
KNOWN = [
    ("", "000000000000000001"),
    ("a", "0000000000000200df"),
    (" ", "00000000000002009e"),
    ("\n", "000000000000020088"),
    ("\u00e9", "000000000000020167"),
    ("\U0001f600", "00000000000003f67e"),
    ("ab", "000000000301db46c4"),
    ("ba", "000000000301dc4702"),
    ("abc", "0000040355ea413b5e"),
    ("aaaaaaa", "0c298d6e5f9957a773"),
    ("k1 hello", "401464f73a87344824"),
    ("aabaaaax", "4412ba741ae47f0bf1"),
    ("aaaaaaax", "08778a47f2ce50dae4"),
    ("aacbaaax", "00aee6fd583e999ce6"),
    ("bdgbaaax", "000a763fd0596c7157"),
    ("[5:stamp3.[3:a.b[]]]", "5ed097867826ec05b7"),
    ("a" * 100, "18557915f2cfbc40d9"),
    ("a" * 100000, "50e47ee6c05f4c55e7"),
]


def expected(text):
    """The digest by one long sum, from which the remainder is taken once."""
    total = (len(text) + 1) * 65599 ** len(text)
    for at, mark in enumerate(text):
        total += ord(mark) * 65599 ** (len(text) - 1 - at)
    return format(total - total // DIVISOR * DIVISOR, "x").rjust(18, "0")


class Digest(unittest.TestCase):
    def test_known_digests(self):
        for text, told in KNOWN:
            with self.subTest(text[:30]):
                self.assertEqual(digest(text), told)

    def test_each_length(self):
        for length in list(range(0, 70)) + [255, 256, 1000, 3000]:
            for mark in ["a", "~", " ", "0"]:
                with self.subTest((length, mark)):
                    self.assertEqual(digest(mark * length), expected(mark * length))

    def test_each_character(self):
        for code in list(range(0, 300)) + [0x661, 0x20AC, 0xD800, 0xFFFF, 0x10000, 0x10FFFF]:
            for text in [chr(code), "abcdefgh" + chr(code), chr(code) + "abcdefgh"]:
                with self.subTest((code, len(text))):
                    self.assertEqual(digest(text), expected(text))

    def test_the_form_of_a_digest(self):
        self.assertEqual(DIGEST_LENGTH, 18)
        for number in range(2000):
            told = digest("text " + str(number))
            self.assertIs(type(told), str)
            self.assertRegex(told, "^[0-9a-f]{18}$")
            self.assertLess(int(told, 16), DIVISOR)

    def test_the_order_of_the_characters_counts(self):
        texts = ["ab", "ba", "a b", "b a", "abc", "acb", "bac", "bca", "cab", "cba"]
        self.assertEqual(len({digest(text) for text in texts}), len(texts))

    def test_no_state_is_kept(self):
        for text, told in KNOWN[::-1] + KNOWN:
            self.assertEqual(digest(text), told)


if __name__ == "__main__":
    unittest.main()

"""Points 200 and 201: the office that makes seals, and the errors of its interface."""

import copy
import unittest

from sealchart.digests import digest
from sealchart.errors import BadKey, BadText
from sealchart.seals import Seals

PER_CENT = chr(37)
NO_STRINGS = [
    None, True, False, 0, 1, 1.5, b"", b"k1", b"a", [], ["k1"], ["a"], (), ("k1",), ("a",), {}, {"k1": 1}, {"a"},
    bytearray(b"a"), object(), str, Seals,
]
NO_KEYS = ["", "k", "1", "K1", "kk", "k1a", "k1 ", " k1", "k1\n", "k012345678901", "list", "k\u0661", PER_CENT]
NOT_PRINTABLE = [
    PER_CENT, "a" + PER_CENT, "\n", "a\n", "\ta", "\0", "\x7f", "\u00e9", "a\u0661b", "\ud800", "\U0001f600",
    "a" * 1000 + "\n",
]
TEXTS = ["", "a", " ", "  ", "~", "k1", "k1 a", "a b", "[5:stamp3.[]]", "0123456789abcdef01", "a" * 100000,
         "a" * 100001]
KEYS = ["k0", "k1", "k01", "k10", "k2", "k99999999999"]


class Make(unittest.TestCase):
    def test_the_mark_is_the_digest_of_key_space_and_text(self):
        office = Seals()
        self.assertEqual(office.make("k1", "hello"), "401464f73a87344824")
        for key in KEYS:
            for text in TEXTS:
                with self.subTest((key, text[:20])):
                    self.assertEqual(office.make(key, text), digest(key + " " + text))

    def test_the_same_pair_again(self):
        office = Seals()
        mark = office.make("k1", "a")
        for _ in range(3):
            self.assertEqual(office.make("k1", "a"), mark)
            self.assertEqual(office.count(), 1)
            self.assertIs(office.holds("k1", "a", mark), True)

    def test_values_that_are_no_keys(self):
        office = Seals()
        for key in NO_STRINGS + NO_KEYS:
            with self.subTest(ascii(key)), self.assertRaises(BadKey):
                office.make(key, "a")
        self.assertEqual(office.count(), 0)

    def test_values_that_are_no_printable_strings(self):
        office = Seals()
        for text in NO_STRINGS + NOT_PRINTABLE:
            with self.subTest(ascii(text)[:20]), self.assertRaises(BadText):
                office.make("k1", text)
        self.assertEqual(office.count(), 0)

    def test_a_bad_key_comes_before_a_bad_text(self):
        office = Seals()
        for key in NO_STRINGS + NO_KEYS:
            for text in NO_STRINGS + NOT_PRINTABLE:
                with self.assertRaises(BadKey):
                    office.make(key, text)
        self.assertEqual(office.count(), 0)

    def test_nothing_changes_if_an_error_is_raised(self):
        office = Seals()
        mark = office.make("k1", "a")
        for key, text in [("k1", "a\n"), ("k1", None), ("k", "a"), (None, "a"), (["k1"], ["a"]), ("k2", "\u00e9")]:
            with self.assertRaises((BadKey, BadText)):
                office.make(key, text)
            self.assertEqual(office.count(), 1)
            self.assertIs(office.holds("k1", "a", mark), True)
            self.assertIs(office.holds(key, text, mark), False)

    def test_the_arguments_are_not_modified(self):
        office = Seals()
        for value in [["k1", ["a"]], {"k1": ["a"]}]:
            before = copy.deepcopy(value)
            with self.assertRaises(BadKey):
                office.make(value, value)
            with self.assertRaises(BadText):
                office.make("k1", value)
            self.assertIs(office.holds(value, value, value), False)
            self.assertEqual(value, before)


class Holds(unittest.TestCase):
    def test_before_and_after(self):
        office = Seals()
        mark = digest("k1 a")
        self.assertIs(office.holds("k1", "a", mark), False)
        self.assertEqual(office.count(), 0)
        self.assertEqual(office.make("k1", "a"), mark)
        self.assertIs(office.holds("k1", "a", mark), True)
        self.assertEqual(office.count(), 1)

    def test_asking_makes_no_seal(self):
        office = Seals()
        for _ in range(3):
            self.assertIs(office.holds("k1", "a", digest("k1 a")), False)
        self.assertEqual(office.count(), 0)
        office.make("k2", "a")
        for _ in range(3):
            self.assertIs(office.holds("k1", "a", digest("k1 a")), False)
        self.assertEqual(office.count(), 1)

    def test_each_pair_holds_its_own_mark_alone(self):
        office = Seals()
        pairs = [(key, text) for key in KEYS for text in TEXTS]
        marks = {(key, text): office.make(key, text) for key, text in pairs}
        for key, text in pairs:
            for other in pairs:
                answer = marks[(key, text)] == marks[other]
                self.assertIs(office.holds(key, text, marks[other]), answer)
                self.assertIs(answer, (key, text) == other)

    def test_pairs_that_were_not_signed(self):
        office = Seals()
        office.make("k1", "a")
        office.make("k2", "b")
        for key, text in [("k1", "b"), ("k2", "a"), ("k3", "a"), ("k1", ""), ("k1", "a "), ("k1", " a"), ("k01", "a"),
                          ("k1", "A"), ("k10", "a"), ("k1 a", ""), ("", "k1 a")]:
            for mark in [digest(key + " " + text), digest("k1 a"), digest("k2 b"), "", None]:
                with self.subTest((key, text, mark)):
                    self.assertIs(office.holds(key, text, mark), False)

    def test_wrong_marks(self):
        office = Seals()
        mark = office.make("k1", "a")
        for wrong in ["", mark + " ", " " + mark, mark[1:], mark[:-1], mark[::-1], mark.upper() + "A", "0" * 18,
                      "0" + mark, mark + "0", "a", "k1", int(mark, 16), mark.encode(), [mark], (mark,), {mark: 1},
                      None, True, False]:
            with self.subTest(repr(wrong)):
                self.assertIs(office.holds("k1", "a", wrong), False)

    def test_a_missing_mark_is_not_held(self):
        # A pair that was never signed has no mark, and None is not its mark.
        office = Seals()
        self.assertIs(office.holds("k1", "a", None), False)

    def test_values_of_other_kinds(self):
        office = Seals()
        mark = office.make("k1", "a")
        for value in NO_STRINGS + NO_KEYS + NOT_PRINTABLE:
            with self.subTest(ascii(value)[:20]):
                self.assertIs(office.holds(value, "a", mark), False)
                self.assertIs(office.holds("k1", value, mark), False)
                self.assertIs(office.holds("k1", "a", value), False)
                self.assertIs(office.holds(value, value, value), False)
        self.assertEqual(office.count(), 1)


class Count(unittest.TestCase):
    def test_different_pairs_count(self):
        office = Seals()
        self.assertEqual(office.count(), 0)
        seen = set()
        for key in KEYS + KEYS[::-1]:
            for text in TEXTS:
                office.make(key, text)
                seen.add((key, text))
                self.assertEqual(office.count(), len(seen))
        self.assertEqual(office.count(), len(KEYS) * len(TEXTS))

    def test_pairs_with_one_joint_text_are_two(self):
        office = Seals()
        office.make("k1", "2 a")
        office.make("k12", "a")
        office.make("k1", " a")
        self.assertEqual(office.count(), 3)

    def test_two_offices_share_nothing(self):
        office, other = Seals(), Seals()
        mark = office.make("k1", "a")
        self.assertEqual(other.count(), 0)
        self.assertIs(other.holds("k1", "a", mark), False)
        other.make("k2", "a")
        self.assertEqual(office.count(), 1)


if __name__ == "__main__":
    unittest.main()

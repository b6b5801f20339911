"""Points 202 and 203: sealed texts and their support, and the errors of their interface."""

import copy
import itertools
import unittest

from sealchart.digests import digest
from sealchart.envelope import opened, seal, support
from sealchart.errors import BadKey, BadText
from sealchart.limits import MOST_SEALS, MOST_TEXT
from sealchart.seals import Seals
from sealchart.texts import decode, encode

PER_CENT = chr(37)
NO_STRINGS = [
    None, True, False, 0, 1, 1.5, b"", b"k1", [], ["k1"], ["a"], (), ("k1",), ("a", ()), {}, {"k1": 1}, {"a"},
    bytearray(b"a"), object(), str, Seals,
]
NO_KEYS = ["", "k", "1", "K1", "kk", "k1a", "k1 ", " k1", "k1\n", "k012345678901", "list", "k\u0661", PER_CENT]
NOT_PRINTABLE = [PER_CENT, "a" + PER_CENT, "\n", "a\n", "\ta", "\0", "\x7f", "\u00e9", "a\u0661b", "\ud800",
                 "\U0001f600"]


def many_keys(many):
    return ["k" + str(number) for number in range(1, many + 1)]


def expected(text, keys):
    """The sealed text by the words of point 202."""
    return encode((text, tuple((key, digest(key + " " + text)) for key in sorted(set(keys)))))


class Seal(unittest.TestCase):
    def test_without_keys(self):
        office = Seals()
        for keys in [[], ()]:
            self.assertEqual(seal(office, "hello", keys), "[5:hello[]]")
            self.assertEqual(seal(office, "", keys), "[0:[]]")
        self.assertEqual(office.count(), 0)

    def test_one_key(self):
        office = Seals()
        self.assertEqual(seal(office, "hello", ["k1"]), "[5:hello[[2:k118:401464f73a87344824]]]")
        self.assertEqual(office.count(), 1)
        self.assertIs(office.holds("k1", "hello", "401464f73a87344824"), True)

    def test_keys_in_any_order_and_repeated(self):
        keys = ["k1", "k10", "k2", "k02"]
        for length in range(1, 6):
            for some in itertools.product(keys, repeat=length):
                office = Seals()
                self.assertEqual(seal(office, "text", list(some)), expected("text", some))
                self.assertEqual(office.count(), len(set(some)))

    def test_the_keys_ascend_as_strings(self):
        sealed = seal(Seals(), "a", ["k9", "k10", "k2", "k1", "k01"])
        self.assertEqual([key for key, _ in opened(sealed)[1]], ["k01", "k1", "k10", "k2", "k9"])

    def test_all_seals_are_held(self):
        office = Seals()
        keys = many_keys(12)
        for text in ["", "a", "a b", "[1:a]", "~" * 500]:
            opened_text, seals = opened(seal(office, text, keys))
            self.assertEqual(opened_text, text)
            self.assertEqual([key for key, _ in seals], sorted(keys))
            for key, mark in seals:
                self.assertIs(office.holds(key, text, mark), True)
        self.assertEqual(office.count(), 5 * 12)

    def test_how_many_keys(self):
        self.assertEqual(MOST_SEALS, 32)
        for keys in [many_keys(32), many_keys(32)[::-1], many_keys(32) * 3]:
            office = Seals()
            sealed = seal(office, "a", keys)
            self.assertEqual(sealed, expected("a", keys))
            self.assertEqual(len(opened(sealed)[1]), 32)
            self.assertEqual(office.count(), 32)
        for keys in [many_keys(33), many_keys(33)[::-1], many_keys(33) * 2, many_keys(100),
                     ["k1"] * 40 + many_keys(33)]:
            office = Seals()
            with self.assertRaises(BadKey):
                seal(office, "a", keys)
            self.assertEqual(office.count(), 0)

    def test_values_that_are_no_keys(self):
        office = Seals()
        for bad in NO_STRINGS + NO_KEYS:
            for keys in [[bad], ["k1", bad], [bad, "k1"], ["k1", bad, "k2"], [bad, bad], many_keys(40) + [bad]]:
                with self.subTest((ascii(bad), len(keys))), self.assertRaises(BadKey):
                    seal(office, "a", keys)
        self.assertEqual(office.count(), 0)

    def test_values_that_are_no_printable_strings(self):
        office = Seals()
        for text in NO_STRINGS + NOT_PRINTABLE:
            for keys in [[], ["k1"], ["k2", "k1"]]:
                with self.subTest((ascii(text), keys)), self.assertRaises(BadText):
                    seal(office, text, keys)
        self.assertEqual(office.count(), 0)

    def test_a_bad_key_comes_before_a_bad_text(self):
        office = Seals()
        for text in NO_STRINGS + NOT_PRINTABLE + ["a" * 100001]:
            for keys in [["k"], ["k1", None], [["k1"]], many_keys(33), many_keys(33) + ["k"]]:
                with self.subTest((ascii(text)[:20], len(keys))), self.assertRaises(BadKey):
                    seal(office, text, keys)
        self.assertEqual(office.count(), 0)

    def test_texts_of_the_greatest_length(self):
        # A seal of the key k1 has 4 + 3 + 18 + 2 characters, and the rest of a sealed text 4 + 6 beside its text.
        for many in [0, 1, 2, 9]:
            office = Seals()
            length = MOST_TEXT - 10 - 27 * many
            sealed = seal(office, "a" * length, many_keys(many))
            self.assertEqual(len(sealed), MOST_TEXT)
            self.assertEqual(office.count(), many)
            self.assertEqual(len(opened(sealed)[1]), many)
            self.assertEqual(support(office, sealed, many_keys(many)), many)

    def test_texts_of_one_character_more(self):
        for many in [0, 1, 2, 9]:
            office = Seals()
            length = MOST_TEXT - 10 - 27 * many + 1
            with self.assertRaises(BadText):
                seal(office, "a" * length, many_keys(many))
            self.assertEqual(office.count(), 0)
            for key in many_keys(many):
                text = "a" * length
                self.assertIs(office.holds(key, text, digest(key + " " + text)), False)

    def test_texts_that_are_much_too_long(self):
        office = Seals()
        for text in ["a" * 100000, "a" * 100001, "a" * 1000000]:
            with self.assertRaises(BadText):
                seal(office, text, ["k1"])
        self.assertEqual(office.count(), 0)

    def test_an_error_leaves_the_earlier_seals(self):
        office = Seals()
        sealed = seal(office, "a", ["k1", "k2"])
        for text, keys in [("a\n", ["k3"]), ("b", ["k3", "k"]), ("b", many_keys(33)), ("a" * 100000, ["k3"])]:
            with self.assertRaises((BadKey, BadText)):
                seal(office, text, keys)
            self.assertEqual(office.count(), 2)
            self.assertEqual(support(office, sealed, ["k1", "k2", "k3"]), 2)

    def test_sealing_again_makes_no_other_seals(self):
        office = Seals()
        sealed = seal(office, "a", ["k1", "k2"])
        self.assertEqual(seal(office, "a", ["k2", "k1", "k2"]), sealed)
        self.assertEqual(office.count(), 2)
        seal(office, "a", ["k3", "k2"])
        self.assertEqual(office.count(), 3)

    def test_the_keys_are_not_modified(self):
        for keys in [["k2", "k1", "k2"], many_keys(40)[::-1], ["k1", ["k2"]], []]:
            before = copy.deepcopy(keys)
            try:
                seal(Seals(), "a", keys)
            except BadKey:
                pass
            self.assertEqual(keys, before)


PAIRS = (("k1", "m"), ("k10", ""), ("k2", "x" * 40))
GOOD = [
    ("", ()),
    ("a", ()),
    ("a", (("k1", ""),)),
    ("a", (("k1", "m"),)),
    ("a", (("k1", "x" * 39),)),
    ("a", (("k1", "x" * 40),)),
    ("a", (("k1", " ~"), ("k2", "m"))),
    ("a b", PAIRS),
    ("[1:a[]]", PAIRS),
    ("a" * 1000, tuple((key, "m") for key in sorted(many_keys(32)))),
    ("a", (("k0", "a"), ("k00", "a"), ("k01", "a"), ("k1", "a"), ("k10", "a"), ("k99999999999", "a"))),
]
# Values that have a canonical text, which is not a sealed text.
BAD = [
    0, 7, "", "a", "[1:a[]]", (), ("a",), ((),), ("a", (), ()), ("a", PAIRS, "b"), (("a", ()),), ("a", ("a", ())),
    # the text
    (0, ()), ((), ()), (("a",), ()), (5, PAIRS), (PAIRS, "a"), ((), "a"),
    # the seals
    ("a", 0), ("a", ""), ("a", "k1"), ("a", "b"), ("a", ("k1", "m")), ("a", ("k1",)), ("a", (0,)), ("a", ("ab",)),
    ("a", ((),)), ("a", (("k1",),)), ("a", (("k1", "m", "n"),)), ("a", (("k1", "m"), ())), ("a", (PAIRS,)),
    ("a", ((("k1", "m"), ("k2", "m")),)), ("a", (("k1", "m"), "k2")), ("a", (("k1", "m"), ("k2",))),
    # the keys
    ("a", ((0, "m"),)), ("a", (((), "m"),)), ("a", ((("k1",), "m"),)), ("a", (("", "m"),)), ("a", (("k", "m"),)),
    ("a", (("K1", "m"),)), ("a", (("k1a", "m"),)), ("a", (("kk", "m"),)), ("a", (("k012345678901", "m"),)),
    ("a", ((" k1", "m"),)), ("a", (("k1", "m"), ("k2 ", "m"))), ("a", (("a1", "m"), ("k1", "m"))),
    ("a", (("m", "k1"),)),
    # the marks
    ("a", (("k1", 0),)), ("a", (("k1", 7),)), ("a", (("k1", ()),)), ("a", (("k1", ("m",)),)),
    ("a", (("k1", "x" * 41),)), ("a", (("k1", "x" * 100),)), ("a", (("k1", "m"), ("k2", "x" * 41))),
    ("a", (("k1", "x" * 41), ("k2", "m"))),
    # the order
    ("a", (("k2", "m"), ("k1", "m"))), ("a", (("k1", "m"), ("k1", "m"))), ("a", (("k1", "m"), ("k1", "n"))),
    ("a", (("k1", "m"), ("k3", "m"), ("k2", "m"))), ("a", (("k2", "m"), ("k10", "m"))),
    ("a", (("k9", "m"), ("k10", "m"))),
    ("a", (("k1", "m"), ("k2", "m"), ("k2", "m"))), ("a", (("k1", "m"), ("k01", "m"))), ("a", PAIRS[::-1]),
    ("a", PAIRS * 2),
    # how many
    ("a", tuple((key, "m") for key in sorted(many_keys(33)))),
    ("a", tuple((key, "m") for key in sorted(many_keys(100)))),
]
NO_TEXTS = [
    "", "a", "[", "]", "[1:a[]", "[1:a[]]]", "[1:a[]] ", " [1:a[]]", "[2:a[]]", "[01:a[]]", "[1:a[[2:k101:m]]]",
    "[1:a[[2:k11:m]]", "[1:" + PER_CENT + "[]]", "[1:\n[]]", "[1:\u00e9[]]", "[1:a[[2:k11:\u00e9]]]",
    "[1:a[[2:k11:\n]]]",
    "[\u0661:a[]]", "[1:a,[]]", "(1:a())", "[" * 5000, "[1:a[]]\n",
]


class Opened(unittest.TestCase):
    def test_sealed_texts(self):
        for value in GOOD:
            with self.subTest(repr(value)[:40]):
                # The repr tells a tuple from a list.
                self.assertEqual(repr(opened(encode(value))), repr(value))

    def test_what_seal_returns(self):
        for many in [0, 1, 2, 31, 32]:
            sealed = seal(Seals(), "hello", many_keys(many)[::-1])
            told = tuple((key, digest(key + " hello")) for key in sorted(many_keys(many)))
            self.assertEqual(repr(opened(sealed)), repr(("hello", told)))

    def test_canonical_texts_that_are_not_sealed_texts(self):
        for value in BAD:
            text = encode(value)
            self.assertEqual(decode(text), value)
            with self.subTest(text[:60]), self.assertRaises(BadText):
                opened(text)

    def test_strings_that_are_not_canonical(self):
        for text in NO_TEXTS:
            with self.subTest(ascii(text)[:40]), self.assertRaises(BadText):
                opened(text)

    def test_each_beginning_of_a_sealed_text(self):
        sealed = seal(Seals(), "hello", ["k1", "k2"])
        for end in range(len(sealed)):
            with self.subTest(end), self.assertRaises(BadText):
                opened(sealed[:end])

    def test_values_of_other_kinds(self):
        for value in NO_STRINGS + GOOD + [list(value) for value in GOOD] + [b"[1:a[]]", ["[1:a[]]"], ("[1:a[]]",)]:
            with self.subTest(ascii(value)[:40]), self.assertRaises(BadText):
                opened(value)

    def test_the_greatest_length(self):
        sealed = "[99990:" + "a" * 99990 + "[]]"
        self.assertEqual(len(sealed), MOST_TEXT)
        self.assertEqual(opened(sealed), ("a" * 99990, ()))
        longer = "[99991:" + "a" * 99991 + "[]]"
        self.assertEqual(len(longer), MOST_TEXT + 1)
        with self.assertRaises(BadText):
            opened(longer)
        sealed = "[99982:" + "a" * 99982 + "[[2:k10:]]]"
        self.assertEqual(len(sealed), MOST_TEXT)
        self.assertEqual(opened(sealed), ("a" * 99982, (("k1", ""),)))
        longer = "[99982:" + "a" * 99982 + "[[2:k11:m]]]"
        with self.assertRaises(BadText):
            opened(longer)

    def test_nothing_is_kept_or_modified(self):
        for value in GOOD * 2:
            with self.assertRaises(BadText):
                opened(encode(BAD[3]))
            self.assertEqual(opened(encode(value)), value)
        row = ["[1:a[]]", ["k1"]]
        with self.assertRaises(BadText):
            opened(row)
        self.assertEqual(row, ["[1:a[]]", ["k1"]])


class Support(unittest.TestCase):
    def setUp(self):
        self.office = Seals()
        self.keys = ["k1", "k10", "k2"]
        self.sealed = seal(self.office, "hello", self.keys)

    def test_each_set_of_keys(self):
        for many in range(5):
            for some in itertools.product(["k1", "k10", "k2", "k3"], repeat=many):
                told = len(set(some) & set(self.keys))
                with self.subTest(some):
                    self.assertEqual(support(self.office, self.sealed, some), told)
                    self.assertEqual(support(self.office, self.sealed, list(some)), told)

    def test_repeated_keys_count_once(self):
        self.assertEqual(support(self.office, self.sealed, ["k1"] * 5), 1)
        self.assertEqual(support(self.office, self.sealed, ("k1", "k2", "k1", "k2", "k7", "k7")), 2)
        self.assertEqual(support(self.office, self.sealed, self.keys * 3), 3)

    def test_keys_of_which_one_begins_like_the_other(self):
        sealed = seal(self.office, "a", ["k1", "k10"])
        self.assertEqual(support(self.office, sealed, ["k10"]), 1)
        self.assertEqual(support(self.office, sealed, ["k1"]), 1)
        self.assertEqual(support(self.office, sealed, ["k100", "k01", "k0"]), 0)

    def test_without_seals(self):
        self.assertEqual(support(self.office, "[5:hello[]]", self.keys), 0)
        self.assertEqual(support(self.office, self.sealed, []), 0)
        self.assertEqual(support(self.office, self.sealed, ()), 0)
        self.assertEqual(support(self.office, "[5:hello[]]", []), 0)

    def test_an_office_that_made_no_such_seals(self):
        self.assertEqual(support(Seals(), self.sealed, self.keys), 0)
        other = Seals()
        other.make("k2", "hello")
        other.make("k1", "hello ")
        other.make("k3", "hello")
        self.assertEqual(support(other, self.sealed, self.keys), 1)

    def test_wrong_marks(self):
        good = dict(opened(self.sealed)[1])
        for wrong in ["", "0" * 18, "x" * 40, good["k2"], good["k1"][::-1], good["k1"][1:], good["k1"] + "0"]:
            marks = dict(good, k1=wrong)
            sealed = encode(("hello", tuple(sorted(marks.items()))))
            with self.subTest(wrong):
                self.assertEqual(support(self.office, sealed, self.keys), 2)
                self.assertEqual(support(self.office, sealed, ["k1"]), 0)
                self.assertEqual(support(self.office, sealed, ["k2", "k1"]), 1)
        sealed = encode(("hello", tuple((key, "m") for key in self.keys)))
        self.assertEqual(support(self.office, sealed, self.keys), 0)

    def test_marks_of_another_text(self):
        seals = opened(self.sealed)[1]
        self.assertEqual(support(self.office, encode(("hello!", seals)), self.keys), 0)
        self.office.make("k1", "hello!")
        self.assertEqual(support(self.office, encode(("hello!", seals)), self.keys), 0)

    def test_a_mark_counts_only_once_it_was_made(self):
        mark = digest("k3 hello")
        sealed = encode(("hello", (("k3", mark),)))
        self.assertEqual(support(self.office, sealed, ["k3"]), 0)
        self.office.make("k3", "hello")
        self.assertEqual(support(self.office, sealed, ["k3"]), 1)

    def test_all_seals_that_there_may_be(self):
        keys = many_keys(32)
        sealed = seal(self.office, "a", keys)
        self.assertEqual(support(self.office, sealed, keys), 32)
        self.assertEqual(support(self.office, sealed, many_keys(100)), 32)
        self.assertEqual(support(self.office, sealed, keys[:16]), 16)

    def test_values_that_are_not_sealed_texts(self):
        for value in NO_STRINGS + NO_TEXTS + [encode(value) for value in BAD]:
            for keys in [[], ["k1"], ("k1", "k2")]:
                with self.subTest(ascii(value)[:40]), self.assertRaises(BadText):
                    support(self.office, value, keys)

    def test_nothing_changes(self):
        keys = ["k2", "k1", "k1"]
        support(self.office, self.sealed, keys)
        self.assertEqual(keys, ["k2", "k1", "k1"])
        self.assertEqual(self.office.count(), 3)
        with self.assertRaises(BadText):
            support(self.office, "a", keys)
        self.assertEqual(self.office.count(), 3)


if __name__ == "__main__":
    unittest.main()

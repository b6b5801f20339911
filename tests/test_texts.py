"""Points 100, 101 and 105 to 107: printable strings, integers, and canonical texts."""

import copy
import itertools
import unittest

from sealchart.errors import BadText
from sealchart.limits import MOST_DEPTH, MOST_TEXT
from sealchart.texts import decode, encode, is_integer, is_printable

PER_CENT = chr(37)
PRINTABLE = "".join(chr(code) for code in range(32, 127) if code != 37)

NO_STRINGS = [None, True, False, 0, 5, -1, 1.5, b"", b"0.", [], ["a"], (), ("a",), {}, {"a": 1}, {"a"}, object(), str]


def nested(depth, *inner):
    """A tuple of this depth, around the inner value where there is one."""
    value = inner
    for _ in range(depth - 1):
        value = (value,)
    return value


class Printable(unittest.TestCase):
    def test_printable_strings(self):
        for value in ["", " ", "~", "a", "a b", "[1:a]", "\\", "'", '"', PRINTABLE]:
            with self.subTest(value):
                self.assertIs(is_printable(value), True)

    def test_each_ascii_character(self):
        for code in range(128):
            with self.subTest(code):
                self.assertIs(is_printable(chr(code)), 32 <= code <= 126 and code != 37)

    def test_characters_above_ascii(self):
        for code in [0x7F, 0x80, 0xA0, 0xE9, 0xFF, 0x131, 0x661, 0x20AC, 0xD800, 0xFF10, 0x1F600, 0x10FFFF]:
            with self.subTest(code):
                self.assertIs(is_printable(chr(code)), False)

    def test_one_bad_character_anywhere(self):
        for bad in [PER_CENT, "\n", "\t", "\r", "\0", "\x7f", "\u00e9"]:
            for value in [bad, bad + "ab", "a" + bad + "b", "ab" + bad]:
                with self.subTest(repr(value)):
                    self.assertIs(is_printable(value), False)

    def test_values_that_are_no_strings(self):
        for value in NO_STRINGS:
            with self.subTest(repr(value)):
                self.assertIs(is_printable(value), False)


class Integers(unittest.TestCase):
    def test_the_bounds(self):
        for least, greatest in [(0, 5), (1, 10 ** 12), (-3, 3), (7, 7)]:
            with self.subTest((least, greatest)):
                self.assertIs(is_integer(least, least, greatest), True)
                self.assertIs(is_integer(greatest, least, greatest), True)
                self.assertIs(is_integer(least - 1, least, greatest), False)
                self.assertIs(is_integer(greatest + 1, least, greatest), False)

    def test_between_the_bounds(self):
        self.assertIs(is_integer(3, 0, 5), True)
        self.assertIs(is_integer(0, -1, 1), True)
        self.assertIs(is_integer(10 ** 5000, 0, 10 ** 5001), True)

    def test_a_greatest_bound_below_the_least_one(self):
        for value in [4, 5, 6, 7, 8]:
            with self.subTest(value):
                self.assertIs(is_integer(value, 7, 5), False)

    def test_true_and_false_are_no_integers(self):
        for value in [True, False]:
            with self.subTest(value):
                self.assertIs(is_integer(value, 0, 1), False)
                self.assertIs(is_integer(value, -9, 9), False)

    def test_values_that_are_no_integers(self):
        for value in [None, "", "1", "12", 1.0, b"1", [], [1], (), (1,), {}, {1: 1}, {1}, object(), int]:
            with self.subTest(repr(value)):
                self.assertIs(is_integer(value, 0, 100), False)


# Plain values with their canonical texts.
PAIRS = [
    (0, "0."),
    (7, "7."),
    (10, "10."),
    (10 ** 12, "1000000000000."),
    (10 ** 19, "1" + "0" * 19 + "."),
    (10 ** 20 - 1, "9" * 20 + "."),
    ("", "0:"),
    ("a", "1:a"),
    ("0.", "2:0."),
    ("1:a", "3:1:a"),
    ("[", "1:["),
    ("]", "1:]"),
    (" ~ ", "3: ~ "),
    ("abcdefghij", "10:abcdefghij"),
    (PRINTABLE, "94:" + PRINTABLE),
    ((), "[]"),
    (((),), "[[]]"),
    (((), ()), "[[][]]"),
    ((0,), "[0.]"),
    (("",), "[0:]"),
    ((0, "", ()), "[0.0:[]]"),
    (("a", 0, ()), "[1:a0.[]]"),
    ((1, 2, 3), "[1.2.3.]"),
    ((12, 3), "[12.3.]"),
    ((1, "23"), "[1.2:23]"),
    (("stamp", 3, ("a.b", ())), "[5:stamp3.[3:a.b[]]]"),
    (nested(8), "[" * 8 + "]" * 8),
    (nested(8, 5), "[" * 8 + "5." + "]" * 8),
    (nested(8, "x"), "[" * 8 + "1:x" + "]" * 8),
]

# Values that are not plain, wherever they stand.
NOT_PLAIN = [
    -1,
    -(10 ** 30),
    10 ** 20,
    10 ** 20 + 1,
    10 ** 5000,
    True,
    False,
    None,
    1.0,
    b"a",
    [],
    [1],
    ["a"],
    {},
    {"a": 1},
    {1},
    object(),
    "\n",
    "a\tb",
    PER_CENT,
    "a" + PER_CENT,
    "\u00e9",
    "\u0661",
    "\ud800",
    "\x7f",
    int,
]

NOT_CANONICAL = [
    # no value at all, or something missing
    "", " ", ".", ":", "[", "]", "a", "0", "7", "12", "1:", "2:a", "3:ab", "[0.", "[[]", "[1:a", "[1:a0.[]",
    "[1:", "[1", "[:]", "[.]", ":a", ".0", "10:abcdefghi",
    # something surplus, or two texts one behind the other
    "0.0.", "0. ", " 0.", "0..", "7.a", "0:a", "1:ab", "[]]", "[][]", "[]0.", "0.[]", "1:a1:a", "[0.]]", "1:a.", "[] ",
    "[0.,0.]", "[0. 0.]", "0.\n", "\n0.", "[]\n",
    # leading zeros
    "00.", "01.", "007.", "00:", "01:a", "010:abcdefghij", "[01.]", "[01:a]", "[00.]", "[00:]", "0" * 20 + ".",
    "0" * 30 + ".", "0" * 19 + "1.", "0" * 30 + "1:a",
    # signs and other ways of writing a number
    "-1.", "+1.", "-0.", "1_0.", "1e3.", "0x1.", "1 .", "-1:a", "+1:a", "1,", "1;a", "()", "(0.)", "{}", "1-", "a.",
    # too many digits
    "1" + "0" * 20 + ".", "9" * 21 + ".", "9" * 21, "[" + "9" * 21 + ".]", "9" * 20 + ":a", "9" * 21 + ":a",
    # digits that are not the characters 0 to 9, and strings that are not printable
    "\u0661.", "\u0661:a", "1\u0661.", "\u00b2.", "\u00b2:ab", "\uff11.", "\uff11:a", "[\u0967.]", "\u00bd.",
    "1:\n", "1:\t", "1:" + PER_CENT, "1:\u00e9", "1:\x7f", "1:\0", "1:\ud800", "[3:a" + PER_CENT + "b]", "2:\u00e9",
    PER_CENT, "0." + PER_CENT, "\u00e9",
    # nested too deeply
    "[" * 9 + "]" * 9, "[" * 9 + "0." + "]" * 9, "[0." + "[" * 8 + "]" * 8 + "]", "[" * 9, "[" * 5000 + "]" * 5000,
]


class Encode(unittest.TestCase):
    def test_the_canonical_texts(self):
        for value, text in PAIRS:
            with self.subTest(text):
                self.assertEqual(encode(value), text)

    def test_values_that_are_not_plain(self):
        for value in NOT_PLAIN:
            for whole in [value, (value,), (0, value), (value, "a"), (0, ("a", (value,))), nested(8, value)]:
                with self.subTest(kind=type(value).__name__, place=NOT_PLAIN.index(value)):
                    with self.assertRaises(BadText):
                        encode(whole)

    def test_the_greatest_depth(self):
        self.assertEqual(encode(nested(MOST_DEPTH)), "[[[[[[[[]]]]]]]]")
        self.assertEqual(encode((0, nested(MOST_DEPTH - 1), "a")), "[0.[[[[[[[]]]]]]]1:a]")

    def test_one_level_more(self):
        for value in [nested(9), nested(9, 0), nested(9, "a"), (0, nested(8)), (nested(8), 0), nested(10)]:
            with self.subTest(repr(value)), self.assertRaises(BadText):
                encode(value)

    def test_a_very_deep_value(self):
        with self.assertRaises(BadText):
            encode(nested(5000))

    def test_texts_of_the_greatest_length(self):
        for value in [
            "a" * 99994,
            ("a" * 99992,),
            (0,) * 49999,
            ("",) * 49999,
            ((),) * 49999,
            nested(8, "a" * (99994 - 16)),
            ("a" * 50000, "b" * 49986),
        ]:
            text = encode(value)
            with self.subTest(text[:20]):
                self.assertEqual(len(text), MOST_TEXT)
                self.assertEqual(decode(text), value)

    def test_texts_of_one_character_more(self):
        for value in [
            "a" * 99995,
            ("a" * 99993,),
            (0,) * 49998 + (10,),
            (10,) + (0,) * 49998,
            ("",) * 49998 + ("a",),
            nested(8, "a" * (99995 - 16)),
            ("a" * 50000, "b" * 49987),
        ]:
            with self.subTest(repr(value)[:20]), self.assertRaises(BadText):
                encode(value)

    def test_texts_that_are_much_too_long(self):
        wide = ("a" * 1000,)
        for _ in range(7):
            wide = wide * 1000
            wide = (wide,)
        for value in ["a" * 1000000, (0,) * 1000000, ((0,) * 30000,) * 30000, wide]:
            with self.assertRaises(BadText):
                encode(value)


class Decode(unittest.TestCase):
    def test_the_values_of_canonical_texts(self):
        for value, text in PAIRS:
            with self.subTest(text):
                # The repr tells True from 1, and a list from a tuple.
                self.assertEqual(repr(decode(text)), repr(value))

    def test_texts_that_are_not_canonical(self):
        for text in NOT_CANONICAL:
            with self.subTest(repr(text)[:40]), self.assertRaises(BadText):
                decode(text)

    def test_each_beginning_and_each_longer_text(self):
        for value, text in PAIRS:
            for end in range(len(text)):
                with self.subTest(text[:end]), self.assertRaises(BadText):
                    decode(text[:end])
            for more in ["0", ".", ":", "[", "]", "a", " ", text]:
                with self.subTest(text + more), self.assertRaises(BadText):
                    decode(text + more)

    def test_values_that_are_no_strings(self):
        for value in NO_STRINGS + [b"[]", ["[]"], ("0.",), [b"0."], bytearray(b"0.")]:
            with self.subTest(repr(value)), self.assertRaises(BadText):
                decode(value)

    def test_texts_of_one_character_more_than_the_greatest_length(self):
        for text in [
            "99995:" + "a" * 99995,
            "[99993:" + "a" * 99993 + "]",
            "[" + "0." * 49998 + "10.]",
            "[" + "[]" * 49998 + "[0.]]",
            "[" + "0:" * 49998 + "1:a]",
        ]:
            with self.subTest(text[:20]):
                self.assertGreater(len(text), MOST_TEXT)
                with self.assertRaises(BadText):
                    decode(text)

    def test_a_very_long_run_of_digits(self):
        for many in [21, 4300, 4301, 5000, 99998, 99999, 100000, 100001, 1000000]:
            for digit in ["9", "1", "0"]:
                for text in [digit * many, digit * many + ".", digit * many + ":a", "[" + digit * many + ".]"]:
                    with self.subTest((many, text[:1], text[-1])), self.assertRaises(BadText):
                        decode(text)

    def test_a_very_long_run_of_brackets(self):
        for many in [9, 1000, 50000, 100000, 100001, 1000000]:
            for text in ["[" * many, "]" * many, "[" * many + "]" * many, "[]" * many, "[[]" * many]:
                with self.subTest((many, text[:2])), self.assertRaises(BadText):
                    decode(text)


class OneText(unittest.TestCase):
    def test_decode_accepts_only_what_encode_returns(self):
        accepted = 0
        for length in range(8):
            for marks in itertools.product("012.:[]", repeat=length):
                text = "".join(marks)
                try:
                    value = decode(text)
                except BadText:
                    continue
                accepted += 1
                self.assertEqual(encode(value), text)
        # Counted by a count of its own: so many canonical texts there are of these characters.
        self.assertEqual(accepted, sum(canonical_texts(length) for length in range(8)))

    def test_unlike_values_have_unlike_texts(self):
        values = small_values(2)
        texts = [encode(value) for value in values]
        self.assertEqual(len(set(texts)), len(values))
        for value, text in zip(values, texts):
            self.assertEqual(repr(decode(text)), repr(value))


def canonical_texts(length):
    """How many canonical texts of this length consist of the characters 0 1 2 . : [ and ]."""
    numbers = 0
    if length == 2:
        numbers = 3
    elif length > 2:
        numbers = 2 * 3 ** (length - 2)
    strings = 0
    for size in range(length):
        if size_is_written_with_0_1_2(size) and len(str(size)) + 1 + size == length:
            strings += 7 ** size
    return numbers + strings + (rows(length - 2) if length >= 2 else 0)


def rows(length):
    """How many runs of canonical texts have this length altogether."""
    if length == 0:
        return 1
    return sum(canonical_texts(first) * rows(length - first) for first in range(1, length + 1))


def size_is_written_with_0_1_2(size):
    return all(digit in "012" for digit in str(size))


def small_values(depth):
    values = [0, 1, 10, 11, "", "0", "1", "0.", "[]", "1:"]
    if depth > 0:
        inner = small_values(depth - 1)
        inner = inner[:14]
        values = values + [()] + [(one,) for one in inner] + [(one, two) for one in inner for two in inner]
    return values


class NothingChanges(unittest.TestCase):
    def test_the_arguments_are_not_modified(self):
        row = [1, ["a"], ("b", [2])]
        table = {"a": [1], "b": ("c", [])}
        for value in [row, table, (1, row), (table, "a"), ("a", (0, row))]:
            before = copy.deepcopy(value)
            is_printable(value)
            is_integer(value, 0, 5)
            with self.assertRaises(BadText):
                encode(value)
            with self.assertRaises(BadText):
                decode(value)
            self.assertEqual(value, before)

    def test_no_state_is_kept(self):
        for value, text in PAIRS + PAIRS[::-1]:
            with self.assertRaises(BadText):
                encode((value, None))
            with self.assertRaises(BadText):
                decode(text + "]")
            self.assertEqual(encode(value), text)
            self.assertEqual(repr(decode(text)), repr(value))


if __name__ == "__main__":
    unittest.main()

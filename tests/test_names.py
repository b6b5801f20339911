"""Points 108 to 110: list names, keys, paths and patterns, and what a pattern matches."""

import copy
import functools
import itertools
import string
import unittest

from sealchart.limits import MOST_PATH
from sealchart.names import ascends, is_key, is_list_name, is_path, is_pattern, matches

PER_CENT = chr(37)
ASKED = [is_list_name, is_key, is_path, is_pattern]
# Values that are no strings, among them some that hold good ones.
NO_STRINGS = [
    None, True, False, 0, 1, -1, 12, 1.5, b"", b"a", b"k1", b"a/b", [], ["a"], ["k", "1"], ["a", "/", "b"], (), ("a",),
    ("k", "1"), ("k1",), {}, {"a": 1}, {"k": 1}, {"a"}, bytearray(b"k1"), object(), str, len,
]
# Characters that stand in none of the four.
STRANGE = [
    "A", "K", "Z", " ", "\n", "\t", "\r", "\0", "\x7f", PER_CENT, "+", ",", ":", ";", "\\", "?", "!", "[", "]", "~",
    "@", "`", "{", "^", "\u00e9", "\u00df", "\u0131", "\u0430", "\u0661", "\u00b2", "\uff11", "\uff41", "\ud800",
    "\U0001f600",
]
PART_MARKS = string.ascii_lowercase + string.digits + ".-_"


class Kinds(unittest.TestCase):
    def test_values_that_are_no_strings(self):
        for asked in ASKED:
            for value in NO_STRINGS:
                with self.subTest((asked.__name__, repr(value))):
                    self.assertIs(asked(value), False)

    def test_the_empty_string(self):
        for asked in ASKED:
            with self.subTest(asked.__name__):
                self.assertIs(asked(""), False)

    def test_a_strange_character_anywhere(self):
        for asked, good in [(is_list_name, "list"), (is_key, "k123"), (is_path, "a/b"), (is_pattern, "a/*")]:
            self.assertIs(asked(good), True)
            for mark in STRANGE:
                for at in range(len(good) + 1):
                    for value in [good[:at] + mark + good[at:], good[:at] + mark + good[at + 1:], mark]:
                        with self.subTest((asked.__name__, ascii(value))):
                            self.assertIs(asked(value), False)

    def test_very_long_strings(self):
        for asked in ASKED:
            for value in ["a" * 1000000, "k" + "1" * 1000000, "a/" * 500000 + "a", "*" * 1000000]:
                with self.subTest((asked.__name__, value[:3])):
                    self.assertIs(asked(value), False)

    def test_the_arguments_are_not_modified(self):
        for asked in ASKED:
            for value in [["a"], {"k1": ["a"]}, {"a": 1}]:
                before = copy.deepcopy(value)
                asked(value)
                self.assertEqual(value, before)


class ListNames(unittest.TestCase):
    def test_lengths(self):
        for length in range(0, 30):
            with self.subTest(length):
                self.assertIs(is_list_name("a" * length), 1 <= length <= 12)
                self.assertIs(is_list_name(string.ascii_lowercase[:length][::-1]), 1 <= min(length, 26) <= 12)

    def test_names(self):
        for name in ["list", "a", "z", "k", "abcdefghijkl", "mnopqrstuvwx", "yz", "charter"]:
            with self.subTest(name):
                self.assertIs(is_list_name(name), True)

    def test_each_character(self):
        for code in range(0x250):
            mark = chr(code)
            with self.subTest(code):
                self.assertIs(is_list_name(mark), "a" <= mark <= "z")
                self.assertIs(is_list_name("a" + mark), "a" <= mark <= "z")
                self.assertIs(is_list_name(mark + "a"), "a" <= mark <= "z")

    def test_no_names(self):
        for value in ["List", "LIST", "list1", "1", "k1", "a.b", "a-b", "a_b", "a/b", "*", "a*", " list", "list ",
                      "list\n"]:
            with self.subTest(ascii(value)):
                self.assertIs(is_list_name(value), False)


class Keys(unittest.TestCase):
    def test_lengths(self):
        for length in range(0, 30):
            with self.subTest(length):
                self.assertIs(is_key(("k" + "7" * length)[:length]), 2 <= length <= 12)

    def test_keys(self):
        for key in ["k0", "k1", "k9", "k00", "k01", "k10", "k01234567890", "k99999999999", "k00000000000"]:
            with self.subTest(key):
                self.assertIs(is_key(key), True)

    def test_no_keys(self):
        for value in ["k", "1", "12", "K1", "kk", "kk1", "k1k", "ka", "k1a", "a1", "l1", "1k", " k1", "k1 ", "k1\n",
                      "k 1", "k-1", "k+1", "k1_0", "k1.", "k.1", "k*", "k/1", "\u006b\u0661", "k\u00b2",
                      "k012345678901"]:
            with self.subTest(ascii(value)):
                self.assertIs(is_key(value), False)

    def test_each_character(self):
        for code in range(0x250):
            mark = chr(code)
            with self.subTest(code):
                self.assertIs(is_key("k" + mark), "0" <= mark <= "9")
                self.assertIs(is_key("k1" + mark), "0" <= mark <= "9")
                self.assertIs(is_key("k" + mark + "1"), "0" <= mark <= "9")
                self.assertIs(is_key(mark + "1"), mark == "k")


class Paths(unittest.TestCase):
    def test_how_many_parts(self):
        for many in range(0, 12):
            with self.subTest(many):
                self.assertIs(is_path("/".join(["ab"] * many)), 1 <= many <= 6)
                self.assertIs(is_pattern("/".join(["ab"] * many)), 1 <= many <= 6)
                self.assertIs(is_pattern("/".join(["*"] * many)), 1 <= many <= 6)

    def test_lengths(self):
        self.assertEqual(MOST_PATH, 60)
        for length in [1, 2, 12, 13, 59, 60, 61, 62, 100]:
            for parts in [1, 2, 6]:
                value = ("a/" * (parts - 1)) + "b" * (length - 2 * (parts - 1))
                if len(value) != length or value.endswith("/"):
                    continue
                with self.subTest((length, parts)):
                    self.assertIs(is_path(value), length <= 60)
                    self.assertIs(is_pattern(value), length <= 60)
                    self.assertIs(is_pattern(value[:-1] + "*"), length <= 60)

    def test_empty_parts(self):
        for value in ["/", "//", "/a", "a/", "a//b", "/a/b", "a/b/", "a///b", "//a", "a//", "a/b//c/d", "/*", "*/",
                      "*//*"]:
            with self.subTest(value):
                self.assertIs(is_path(value), False)
                self.assertIs(is_pattern(value), False)

    def test_paths(self):
        for value in ["a", "0", ".", "..", "-", "_", "a.b", "bin/a.tar", "../..", "a/b/c/d/e/f", "a-b_c.9/x", "list",
                      "0/1/2/3/4/5", "--/__", PART_MARKS]:
            with self.subTest(value):
                self.assertIs(is_path(value), True)
                self.assertIs(is_pattern(value), True)

    def test_each_character(self):
        for code in range(0x250):
            mark = chr(code)
            with self.subTest(code):
                self.assertIs(is_path(mark), mark in PART_MARKS)
                self.assertIs(is_pattern(mark), mark in PART_MARKS + "*")
                for value in ["a" + mark + "b", "x/a" + mark, "a" + mark + "/x"]:
                    self.assertIs(is_path(value), mark in PART_MARKS or value == "a/b")
                    self.assertIs(is_pattern(value), mark in PART_MARKS + "*" or value == "a/b")

    def test_a_slash_beside_another_character(self):
        self.assertIs(is_path("a/b"), True)
        self.assertIs(is_path("x/a/"), False)
        self.assertIs(is_path("a//x"), False)

    def test_stars_make_a_pattern_but_no_path(self):
        for value in ["*", "**", "***", "a*", "*a", "a*b", "a**b", "*a*", "bin/*", "*/bin", "a/*/b", "*/*/*/*/*/*",
                      "*" * 60, "*.tar", "-*-", "_*.*"]:
            with self.subTest(value):
                self.assertIs(is_path(value), False)
                self.assertIs(is_pattern(value), True)
        self.assertIs(is_pattern("*" * 61), False)


@functools.lru_cache(maxsize=None)
def part_fits(pattern, part):
    """Point 110 for one part, said straight: the first star stands for each beginning in turn."""
    if pattern == "":
        return part == ""
    if pattern[0] == "*":
        return any(part_fits(pattern[1:], part[at:]) for at in range(len(part) + 1))
    return part[:1] == pattern[0] and part_fits(pattern[1:], part[1:])


def words(marks, most):
    return ["".join(word) for length in range(1, most + 1) for word in itertools.product(marks, repeat=length)]


class Matches(unittest.TestCase):
    def check(self, pattern, path, answer):
        with self.subTest((pattern, path)):
            self.assertIs(is_pattern(pattern), True)
            self.assertIs(is_path(path), True)
            self.assertIs(matches(pattern, path), answer)

    def test_the_examples(self):
        self.check("bin/*.tar", "bin/a.tar", True)
        self.check("bin/*", "bin/x/a", False)

    def test_without_a_star(self):
        self.check("a", "a", True)
        self.check("a/b/c/d/e/f", "a/b/c/d/e/f", True)
        self.check("a", "b", False)
        self.check("a", "aa", False)
        self.check("aa", "a", False)
        self.check("a/b", "b/a", False)
        self.check("a.b", "a-b", False)
        self.check(".", "a", False)
        self.check("..", "ab", False)
        self.check("a", "a/a", False)
        self.check("a/a", "a", False)

    def test_how_many_parts(self):
        for many in range(1, 7):
            for other in range(1, 7):
                self.check("/".join(["*"] * many), "/".join(["a"] * other), many == other)
                self.check("/".join(["a"] * many), "/".join(["a"] * other), many == other)

    def test_each_part_matches_the_part_at_its_place(self):
        self.check("*/b", "a/b", True)
        self.check("a/*", "a/b", True)
        self.check("a/*", "b/b", False)
        self.check("*/b", "b/a", False)
        self.check("*/*/c", "a/b/c", True)
        self.check("*/*/c", "a/c/b", False)
        for at in range(6):
            parts = ["a"] * 6
            parts[at] = "b"
            self.check("a*/a*/a*/a*/a*/a*", "/".join(parts), False)
            self.check("/".join(parts), "a/a/a/a/a/a", False)

    def test_a_star_is_no_slash(self):
        self.check("*", "a/b", False)
        self.check("a*b", "a/b", False)
        self.check("a*", "a/b", False)
        self.check("*b", "a/b", False)
        self.check("**", "a/b", False)

    def test_a_star_alone(self):
        for part in ["a", "abc", ".", "..", "-_.0", "a" * 60]:
            self.check("*", part, True)
            self.check("**", part, True)
            self.check("***", part, True)

    def test_a_star_at_the_ends_of_a_part(self):
        self.check("a*", "a", True)
        self.check("a*", "ab", True)
        self.check("a*", "ba", False)
        self.check("*a", "a", True)
        self.check("*a", "ba", True)
        self.check("*a", "ab", False)
        self.check("*a*", "a", True)
        self.check("*a*", "bab", True)
        self.check("*a*", "bbb", False)
        self.check("ab*", "a", False)
        self.check("*ab", "b", False)

    def test_stars_in_the_middle(self):
        self.check("a*b", "ab", True)
        self.check("a*b", "axyzb", True)
        self.check("a*b", "abab", True)
        self.check("a*b", "aba", False)
        self.check("a**b", "ab", True)
        self.check("a**b", "axb", True)
        self.check("a*b*c", "abc", True)
        self.check("a*b*c", "abbcbc", True)
        self.check("a*b*c", "acb", False)
        self.check("a*b*c", "acc", False)

    def test_pieces_do_not_overlap(self):
        self.check("ab*ba", "aba", False)
        self.check("ab*ba", "abba", True)
        self.check("a*a", "a", False)
        self.check("a*a", "aa", True)
        self.check("a*aa*a", "aaa", False)
        self.check("a*aa*a", "aaaa", True)
        self.check("*ab*ab*", "ab", False)
        self.check("*ab*ab*", "abab", True)
        self.check("*aba*aba*", "ababa", False)
        self.check("a*b*b", "ab", False)
        self.check("a*b*b", "abb", True)

    def test_a_star_is_not_a_mark_of_the_path(self):
        self.check("a.b*", "a.b", True)
        self.check("a.b*", "axb", False)
        self.check("*.*", "a.b", True)
        self.check("*.*", "ab", False)
        self.check("*-*_*", "a-b_c", True)
        self.check("*-*_*", "a_b-c", False)

    def test_all_small_parts(self):
        patterns = words("ab*", 5)
        parts = words("ab", 6)
        wrong = [(one, part) for one in patterns for part in parts if matches(one, part) is not part_fits(one, part)]
        self.assertEqual(wrong, [])

    def test_all_small_pairs_of_parts(self):
        patterns = words("a*", 2) + ["b"]
        parts = words("ab", 2)
        for first, second, one, two in itertools.product(patterns, patterns, parts, parts):
            answer = part_fits(first, one) and part_fits(second, two)
            self.assertIs(matches(first + "/" + second, one + "/" + two), answer, (first, second, one, two))

    def test_many_stars_in_a_long_part(self):
        # Such patterns take for ever where each star is tried at each place.
        self.check("*a" * 29 + "*b", "a" * 60, False)
        self.check("*a" * 30, "a" * 60, True)
        self.check("*" * 60, "a" * 60, True)
        self.check("a*" * 29 + "b", "a" * 59 + "b", True)

    def test_beyond_the_limits(self):
        self.assertIs(matches("a/b/c/d/e/f/*", "a/b/c/d/e/f/g"), True)
        self.assertIs(matches("a/b/c/d/e/f/*", "a/b/c/d/e/f"), False)
        self.assertIs(matches("*" + "a" * 60, "a" * 61), True)
        self.assertIs(matches("a" * 61, "a" * 62), False)


class Ascends(unittest.TestCase):
    def test_rows_of_names(self):
        for names in [[], ["a"], ["a", "b"], ["k1", "k10", "k2"], ["a", "aa", "b", "c"]]:
            with self.subTest(names):
                before = list(names)
                self.assertIs(ascends(names), True)
                self.assertEqual(names, before)
        for names in [["a", "a"], ["b", "a"], ["a", "c", "b"], ["k2", "k10"], ["a", "b", "b"], ["b", "a", "c"]]:
            with self.subTest(names):
                before = list(names)
                self.assertIs(ascends(names), False)
                self.assertEqual(names, before)


if __name__ == "__main__":
    unittest.main()

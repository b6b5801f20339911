"""Part 3 (points 300 to 307): documents, their texts and their published names."""

import copy
import itertools
import unittest

from kit import FOREIGN, LATE, NO_STRINGS, SUM, charter, grant, keys, listing, replaced, reshaped, role

from sealchart.documents import (
    covers, entry_of, file_name, good_of, is_charter, is_digest, is_grant, is_list, is_role, is_shelf, is_stamp,
    published_name, read, write,
)
from sealchart.errors import BadDocument
from sealchart.limits import MOST_DEPTH, MOST_TEXT
from sealchart.names import matches
from sealchart.texts import decode, encode

ONE = role(1, "k1")
STAMP = ("stamp", 3, 90, (4, 200, SUM))
SHELF = ("shelf", 4, 90, (("a", 7, 0, SUM), ("list", 2, 10, SUM), ("zz", 1, 5, SUM)))
LIST = listing(
    "base", 5, 80, [("a/b", 3, SUM), ("a/c", 0, SUM[::-1])],
    [("x", role(2, "k1", "k2"), ("a/*", "b"), 0), ("aa", ONE, ("*",), 1)],
)
CHARTER = charter(2, 77)
DOCUMENTS = {"charter": CHARTER, "stamp": STAMP, "shelf": SHELF, "list": LIST}
CHECKS = {"charter": is_charter, "stamp": is_stamp, "shelf": is_shelf, "list": is_list}


def letters(many):
    """So many list names of one length, which ascend and come before the name list."""
    return ["".join(some) for some in itertools.islice(itertools.product("abcdef", repeat=3), many)]


def rows(many, names=None):
    names = names if names is not None else letters(many - 1) + ["list"]
    return tuple((name, 1, 2, SUM) for name in names)


def goods(many):
    return tuple((f"p{number:03}", 1, SUM) for number in range(many))


def grants(many):
    return tuple(grant(name) for name in letters(many))


def largest():
    """Documents in which everything is as many and as long as it may be."""
    number = LATE
    wide = (16, tuple(f"k99999999{at:03}" for at in range(16)))
    path = "a" * 57
    names = ["a" * 9 + name for name in letters(31)]
    patterns = ("a*" * 30,) * 8
    return {
        "charter": ("charter", number, number, (wide,) * 4),
        "stamp": ("stamp", number, number, (number, number, "f" * 18)),
        "shelf": ("shelf", number, number, tuple((name, number, number, "f" * 18) for name in names)
                  + (("list", number, number, "f" * 18),)),
        "list": ("list", "z" * 12, number, number, tuple((f"{path}{at:03}", number, "f" * 18) for at in range(64)),
                 tuple(("b" * 9 + name, wide, patterns, 1) for name in letters(32))),
    }


class Roles(unittest.TestCase):
    def test_roles(self):
        for value in [(1, ("k1",)), (2, ("k1", "k2", "k7")), (2, ("k1", "k10", "k2")), (1, ("k0", "k00")),
                      (1, keys(100, 16)), (16, keys(100, 16)), (3, ("k1", "k2", "k3"))]:
            with self.subTest(value):
                self.assertIs(is_role(value), True)

    def test_the_threshold(self):
        for many in [1, 2, 15, 16]:
            for threshold in range(-1, many + 3):
                with self.subTest((threshold, many)):
                    self.assertIs(is_role((threshold, keys(100, many))), 1 <= threshold <= many)
        for threshold in FOREIGN + ["1", (1,), [1]]:
            self.assertIs(is_role((threshold, ("k1", "k2"))), False)

    def test_how_many_keys(self):
        for many in range(19):
            with self.subTest(many):
                self.assertIs(is_role((1, keys(100, many))), 1 <= many <= 16)

    def test_the_order_of_the_keys(self):
        for some in itertools.product(["k1", "k10", "k2"], repeat=3):
            with self.subTest(some):
                self.assertIs(is_role((1, some)), some == ("k1", "k10", "k2"))
        self.assertIs(is_role((2, ("k2", "k1"))), False)
        self.assertIs(is_role((1, ("k1", "k1"))), False)
        self.assertIs(is_role((1, ("k9", "k10"))), False)

    def test_values_that_are_no_keys(self):
        for bad in ["k", "1", "", "K1", "k1 ", "k012345678901", "a", 1, None, ("k1",), ["k1"], b"k1"]:
            with self.subTest(repr(bad)):
                self.assertIs(is_role((1, (bad,))), False)
                self.assertIs(is_role((1, ("k1", bad))), False)
                self.assertIs(is_role((1, (bad, "k1"))), False)

    def test_other_values(self):
        for value in FOREIGN + [(), (1,), ("k1",), (1, "k1"), (1, ["k1"]), [1, ("k1",)], (1, ("k1",), 0), (("k1",), 1),
                                (1, {"k1"}), (1, {"k1": 1}), "k1", 1]:
            with self.subTest(repr(value)):
                self.assertIs(is_role(value), False)


class Digests(unittest.TestCase):
    def test_digests(self):
        for value in [SUM, "0" * 18, "f" * 18, "9" * 18, "a" * 18, "0f" * 9]:
            self.assertIs(is_digest(value), True)

    def test_the_length(self):
        for many in range(40):
            with self.subTest(many):
                self.assertIs(is_digest("a" * many), many == 18)

    def test_each_character(self):
        for code in list(range(256)) + [0x661, 0xFF10, 0x1F600]:
            for value in [chr(code) + "0" * 17, "0" * 9 + chr(code) + "0" * 8, "0" * 17 + chr(code)]:
                with self.subTest(ascii(value)):
                    self.assertIs(is_digest(value), chr(code) in "0123456789abcdef")

    def test_capital_letters(self):
        for mark in "ABCDEF":
            self.assertIs(is_digest(mark + SUM[1:]), False)

    def test_other_values(self):
        for value in FOREIGN + NO_STRINGS + [int("1" * 18), tuple(SUM), list(SUM), SUM.encode("ascii"), (SUM,)]:
            with self.subTest(repr(value)):
                self.assertIs(is_digest(value), False)


class Grants(unittest.TestCase):
    def test_grants(self):
        for value in [grant("a"), grant("z" * 12), grant("lists"), grant("lis"), ("x", (2, ("k1", "k2")), ("a/*",), 1)]:
            self.assertIs(is_grant(value), True)

    def test_the_name(self):
        for name in ["list", "", "A", "a1", "a" * 13, "a b", 1, None, ("a",), ["a"]]:
            with self.subTest(repr(name)):
                self.assertIs(is_grant(grant(name)), False)

    def test_the_patterns(self):
        for many in range(11):
            self.assertIs(is_grant(grant("a", ("*",) * many)), 1 <= many <= 8)
            self.assertIs(is_grant(grant("a", tuple("b" * (10 - at) for at in range(many)))), 1 <= many <= 8)
        for pattern in ["", "/", "a//b", "A", "a b", "a" * 61, "a/b/c/d/e/f/g", "/a", "a/", None, 1, ("a",), ["a"]]:
            for patterns in [(pattern,), ("a", pattern), (pattern, "a")]:
                with self.subTest(patterns):
                    self.assertIs(is_grant(grant("a", patterns)), False)
        self.assertIs(is_grant(("a", ONE, "*", 0)), False)
        self.assertIs(is_grant(("a", ONE, ["*"], 0)), False)

    def test_last(self):
        for last in [0, 1]:
            self.assertIs(is_grant(grant("a", last=last)), True)
        for last in FOREIGN + [2, 3, 10, "0", "1", "", (), (0,)]:
            with self.subTest(repr(last)):
                self.assertIs(is_grant(grant("a", last=last)), False)

    def test_the_role(self):
        for by in [(0, ("k1",)), (2, ("k1",)), (1, ()), (1, ("k2", "k1")), (True, ("k1",)), None, ("k1",),
                   [1, ("k1",)]]:
            with self.subTest(repr(by)):
                self.assertIs(is_grant(grant("a", by=by)), False)

    def test_other_values(self):
        for value in FOREIGN + [(), ("a",), grant("a")[:3], grant("a") + (0,), list(grant("a")), "a", (grant("a"),)]:
            with self.subTest(repr(value)):
                self.assertIs(is_grant(value), False)

    def test_other_kinds_at_each_place(self):
        for worth in FOREIGN:
            for value in replaced(("x", (2, ("k1", "k2")), ("a/*", "b"), 0), worth):
                with self.subTest(repr(value)):
                    self.assertIs(is_grant(value), False)

    def test_what_a_grant_covers(self):
        self.assertIs(covers(grant("a", ("bin/*.tar", "doc/*")), "bin/a.tar"), True)
        self.assertIs(covers(grant("a", ("bin/*.tar", "doc/*")), "doc/a.tar"), True)
        self.assertIs(covers(grant("a", ("bin/*.tar", "doc/*")), "doc/a/b"), False)
        self.assertIs(covers(grant("a", ("bin/*.tar", "doc/*")), "bin/a"), False)
        patterns = ["a", "*", "a/*", "*/b", "*a*", "b"]
        for path in ["a", "b", "a/b", "ab", "c", "a/b/c"]:
            for some in itertools.product(patterns, repeat=3):
                told = any(matches(pattern, path) for pattern in some)
                self.assertIs(covers(grant("x", some), path), told)


class EachKind(unittest.TestCase):
    """What holds for the documents of all four kinds."""

    def test_each_document_is_of_its_kind_alone(self):
        for kind, document in DOCUMENTS.items():
            for other, check in CHECKS.items():
                with self.subTest((kind, other)):
                    self.assertIs(check(document), kind == other)

    def test_versions(self):
        for kind, document in DOCUMENTS.items():
            at = 2 if kind == "list" else 1
            for version, told in [(0, False), (1, True), (2, True), (LATE - 1, True), (LATE, True), (LATE + 1, False)]:
                with self.subTest((kind, version)):
                    self.assertIs(CHECKS[kind](document[:at] + (version,) + document[at + 1:]), told)

    def test_expiry_times(self):
        for kind, document in DOCUMENTS.items():
            at = 3 if kind == "list" else 2
            for time, told in [(-1, False), (0, True), (1, True), (LATE, True), (LATE + 1, False)]:
                with self.subTest((kind, time)):
                    self.assertIs(CHECKS[kind](document[:at] + (time,) + document[at + 1:]), told)

    def test_other_kinds_at_each_place(self):
        for kind, document in DOCUMENTS.items():
            for worth in FOREIGN:
                for value in replaced(document, worth):
                    with self.subTest(repr(value)):
                        self.assertIs(CHECKS[kind](value), False)

    def test_lists_for_tuples_and_the_like_at_each_place(self):
        for kind, document in DOCUMENTS.items():
            for value in reshaped(document):
                with self.subTest(repr(value)):
                    self.assertIs(CHECKS[kind](value), False)

    def test_any_value(self):
        for check in CHECKS.values():
            for value in FOREIGN + NO_STRINGS + ["charter", ("charter",), ("list",) * 6, ("stamp",) * 4, (0,) * 4,
                                                 ((),) * 6]:
                with self.subTest(repr(value)):
                    self.assertIs(check(value), False)

    def test_the_word_at_the_beginning(self):
        for kind, document in DOCUMENTS.items():
            for word in ["charter", "stamp", "shelf", "list", "Charter", "", "lists", kind + " "]:
                with self.subTest((kind, word)):
                    self.assertIs(CHECKS[kind]((word,) + document[1:]), word == kind)

    def test_one_item_less_or_more(self):
        for kind, document in DOCUMENTS.items():
            self.assertIs(CHECKS[kind](document[:-1]), False)
            self.assertIs(CHECKS[kind](document + (0,)), False)
            self.assertIs(CHECKS[kind](document + ((),)), False)

    def test_a_value_that_answers_every_comparison(self):
        class Same:
            def __eq__(self, other):
                return True

            def __hash__(self):
                return 1

        for kind, document in DOCUMENTS.items():
            for value in replaced(document, Same()):
                self.assertIs(CHECKS[kind](value), False)


class Charters(unittest.TestCase):
    def test_the_roles(self):
        some = CHARTER[3]
        for roles in [(), some[:3], some + some[:1], list(some), (some,), ONE, (ONE,) * 3, (ONE,) * 5]:
            with self.subTest(repr(roles)):
                self.assertIs(is_charter(charter(roles=roles)), False)
        self.assertIs(is_charter(charter(roles=(ONE,) * 4)), True)
        for at in range(4):
            for bad in [(0, ("k1",)), (2, ("k1",)), (1, ()), (1, keys(100, 17)), (1, ("k2", "k1"))]:
                roles = (ONE,) * at + (bad,) + (ONE,) * (3 - at)
                self.assertIs(is_charter(charter(roles=roles)), False)


class Stamps(unittest.TestCase):
    def test_the_shelf(self):
        for at, worth, told in [
            (0, 0, False), (0, 1, True), (0, LATE, True), (0, LATE + 1, False),
            (1, 0, True), (1, LATE, True), (1, LATE + 1, False), (1, -1, False),
            (2, "0" * 17, False), (2, "0" * 18, True), (2, "0" * 19, False), (2, "A" * 18, False),
        ]:
            entry = list(STAMP[3])
            entry[at] = worth
            with self.subTest((at, worth)):
                self.assertIs(is_stamp(STAMP[:3] + (tuple(entry),)), told)
        for entry in [(), STAMP[3][:2], STAMP[3] + (0,), ("list",) + STAMP[3]]:
            self.assertIs(is_stamp(STAMP[:3] + (entry,)), False)


class Shelves(unittest.TestCase):
    def test_how_many_lists(self):
        for many in [1, 2, 31, 32, 33, 40]:
            with self.subTest(many):
                self.assertIs(is_shelf(SHELF[:3] + (rows(many),)), many <= 32)
        self.assertIs(is_shelf(SHELF[:3] + ((),)), False)

    def test_without_the_top_list(self):
        for names in [["a"], ["a", "lists"], ["lis", "lists"], letters(32)]:
            with self.subTest(names):
                self.assertIs(is_shelf(SHELF[:3] + (rows(0, names),)), False)
                self.assertIs(is_shelf(SHELF[:3] + (rows(0, sorted(names + ["list"])[:32]),)), len(names) < 32)

    def test_the_order_of_the_names(self):
        for names in itertools.product(["a", "ab", "list"], repeat=3):
            with self.subTest(names):
                self.assertIs(is_shelf(SHELF[:3] + (rows(0, names),)), names == ("a", "ab", "list"))
        self.assertIs(is_shelf(SHELF[:3] + (rows(0, ["list", "list"]),)), False)
        self.assertIs(is_shelf(SHELF[:3] + (rows(0, ["list", "a"]),)), False)

    def test_the_rows(self):
        good = ("list", 1, 2, SUM)
        for at, worth, told in [
            (1, 0, False), (1, 1, True), (1, LATE, True), (1, LATE + 1, False),
            (2, 0, True), (2, LATE, True), (2, LATE + 1, False), (2, -1, False),
            (3, "0" * 17, False), (3, "0" * 18, True), (3, "0" * 19, False), (3, "A" * 18, False),
            (0, "List", False), (0, "", False), (0, "list1", False),
        ]:
            row = good[:at] + (worth,) + good[at + 1:]
            with self.subTest(row):
                self.assertIs(is_shelf(SHELF[:3] + ((row,),)), told)
        for row in [good[:3], good + (0,), good[1:], (), (good,)]:
            self.assertIs(is_shelf(SHELF[:3] + ((row,),)), False)
            self.assertIs(is_shelf(SHELF[:3] + ((good, row),)), False)
        for name in ["lists1", "lists" * 3, "m n"]:
            self.assertIs(is_shelf(SHELF[:3] + ((good, (name, 1, 2, SUM)),)), False)

    def test_the_entry_of_a_list(self):
        self.assertEqual(entry_of(SHELF, "list"), (2, 10, SUM))
        self.assertEqual(entry_of(SHELF, "a"), (7, 0, SUM))
        self.assertEqual(entry_of(SHELF, "zz"), (1, 5, SUM))
        for name in ["", "z", "zzz", "lis", "lists", "shelf"]:
            self.assertIsNone(entry_of(SHELF, name))


class Lists(unittest.TestCase):
    def test_how_many_files(self):
        for many in [0, 1, 2, 63, 64, 65, 70]:
            with self.subTest(many):
                self.assertIs(is_list(listing(goods=goods(many))), many <= 64)

    def test_the_files(self):
        good = ("a/b", 3, SUM)
        for at, worth, told in [
            (1, 0, True), (1, LATE, True), (1, LATE + 1, False), (1, -1, False),
            (2, "0" * 17, False), (2, "0" * 18, True), (2, "0" * 19, False), (2, "A" * 18, False),
            (0, "a" * 60, True), (0, "a" * 61, False), (0, "a/b/c/d/e/f", True), (0, "a/b/c/d/e/f/g", False),
            (0, "", False), (0, "a/", False), (0, "a/*", False), (0, "A", False),
        ]:
            one = good[:at] + (worth,) + good[at + 1:]
            with self.subTest(one):
                self.assertIs(is_list(listing(goods=[one])), told)
        for one in [good[:2], good + (0,), (), (good,)]:
            self.assertIs(is_list(listing(goods=[one])), False)
            self.assertIs(is_list(listing(goods=[good, one])), False)

    def test_the_order_of_the_files(self):
        for paths in itertools.product(["a", "a.b", "a/b"], repeat=3):
            with self.subTest(paths):
                some = [(path, 1, SUM) for path in paths]
                self.assertIs(is_list(listing(goods=some)), paths == ("a", "a.b", "a/b"))

    def test_how_many_grants(self):
        for many in [0, 1, 2, 31, 32, 33, 40]:
            with self.subTest(many):
                self.assertIs(is_list(listing(grants=grants(many))), many <= 32)

    def test_grants_stand_in_any_order(self):
        for names in itertools.permutations(["a", "b", "c", "zz"]):
            self.assertIs(is_list(listing(grants=[grant(name) for name in names])), True)

    def test_two_grants_of_one_name(self):
        for some in [[grant("a"), grant("a")], [grant("a"), grant("b"), grant("a", ("b",), 1)],
                     [grant("b"), grant("a"), grant("a")]]:
            self.assertIs(is_list(listing(grants=some)), False)

    def test_a_grant_for_the_list_itself_or_for_the_top_list(self):
        for name in ["list", "a", "b"]:
            for other in ["list", "a", "b"]:
                with self.subTest((name, other)):
                    told = other != name and other != "list"
                    self.assertIs(is_list(listing(name, grants=[grant(other)])), told)
                    self.assertIs(is_list(listing(name, grants=[grant("c"), grant(other)])), told)

    def test_wrong_grants(self):
        for bad in [grant("a", last=2), grant("a", ("*",) * 9), grant("a", ()), grant("A"), grant("a")[:3], ()]:
            self.assertIs(is_list(listing(grants=[bad])), False)
            self.assertIs(is_list(listing(grants=[grant("b"), bad])), False)

    def test_the_name(self):
        for name in ["a", "list", "z" * 12]:
            self.assertIs(is_list(listing(name)), True)
        for name in ["", "z" * 13, "A", "a1", "a.b"]:
            self.assertIs(is_list(listing(name)), False)

    def test_the_good_of_a_path(self):
        self.assertEqual(good_of(LIST, "a/b"), (3, SUM))
        self.assertEqual(good_of(LIST, "a/c"), (0, SUM[::-1]))
        for path in ["a", "a/", "a/d", "b", "", "a/b/c"]:
            self.assertIsNone(good_of(LIST, path))
        self.assertIsNone(good_of(listing(), "a/b"))


class Texts(unittest.TestCase):
    def test_the_text_is_the_canonical_text(self):
        for kind, document in DOCUMENTS.items():
            self.assertEqual(write(document), encode(document))
            # The repr tells True from 1, and a list from a tuple.
            self.assertEqual(repr(read(kind, write(document))), repr(document))
        self.assertEqual(write(STAMP), "[5:stamp3.90.[4.200.18:" + SUM + "]]")

    def test_each_kind_reads_its_own_documents_alone(self):
        for kind, document in DOCUMENTS.items():
            for other in DOCUMENTS:
                if other != kind:
                    with self.subTest((kind, other)), self.assertRaises(BadDocument):
                        read(other, write(document))

    def test_texts_that_are_of_no_document(self):
        for kind, document in DOCUMENTS.items():
            text = write(document)
            for bad in ["", "[]", "a", "0.", text + " ", " " + text, text[:-1], text[1:], text + text, "[" + text + "]",
                        encode(document[:-1]), encode(document + (0,)), encode((kind,)), encode(kind)]:
                with self.subTest(bad), self.assertRaises(BadDocument):
                    read(kind, bad)

    def test_plain_values_beside_the_documents(self):
        for kind, document in DOCUMENTS.items():
            for worth in ["", "A", "Aa", 10 ** 12 + 1, 10 ** 20 - 1, (((),),)]:
                for value in replaced(document, worth):
                    with self.subTest(repr(value)), self.assertRaises(BadDocument):
                        read(kind, encode(value))
                    with self.assertRaises(BadDocument):
                        write(value)

    def test_other_values(self):
        for kind, document in DOCUMENTS.items():
            for value in FOREIGN + NO_STRINGS + [document, list(document), write(document).encode("ascii")]:
                with self.subTest(repr(value)), self.assertRaises(BadDocument):
                    read(kind, value)

    def test_values_that_are_no_documents_are_not_written(self):
        for value in FOREIGN + NO_STRINGS + [(), "a", ("charter",), STAMP[:3], STAMP + (0,), list(STAMP), ONE,
                                             grant("a"),
                                             ("file",) + STAMP[1:]]:
            with self.subTest(repr(value)), self.assertRaises(BadDocument):
                write(value)
        for document in DOCUMENTS.values():
            for value in list(reshaped(document)) + list(replaced(document, None)):
                with self.subTest(repr(value)), self.assertRaises(BadDocument):
                    write(value)

    def test_the_largest_documents(self):
        for kind, document in largest().items():
            with self.subTest(kind):
                self.assertIs(CHECKS[kind](document), True)
                text = write(document)
                self.assertLess(len(text), MOST_TEXT)
                self.assertEqual(read(kind, text), document)
                self.assertLessEqual(depth(document), MOST_DEPTH)

    def test_nothing_is_modified(self):
        for document in DOCUMENTS.values():
            value = [list(document), [document]]
            before = copy.deepcopy(value)
            for check in list(CHECKS.values()) + [is_role, is_digest, is_grant]:
                check(value)
                check(value[0])
            for call in [write, published_name]:
                with self.assertRaises(BadDocument):
                    call(value)
            self.assertEqual(value, before)


def depth(value):
    if not isinstance(value, tuple):
        return 0
    return 1 + max([depth(part) for part in value], default=0)


class PublishedNames(unittest.TestCase):
    def test_the_names(self):
        self.assertEqual(published_name(CHARTER), "2.charter")
        self.assertEqual(published_name(STAMP), "stamp")
        self.assertEqual(published_name(SHELF), "4.shelf")
        self.assertEqual(published_name(LIST), "5.base.list")
        self.assertEqual(published_name(listing()), "1.list.list")
        self.assertEqual(published_name(("shelf", 4, 90, (("list", 2, 10, SUM),))), "4.shelf")
        for version in [1, 10, 123, LATE]:
            self.assertEqual(published_name(charter(version)), str(version) + ".charter")
            self.assertEqual(published_name(("shelf", version) + SHELF[2:]), str(version) + ".shelf")
            self.assertEqual(published_name(listing("ab", version)), str(version) + ".ab.list")
            self.assertEqual(published_name(("stamp", version) + STAMP[2:]), "stamp")

    def test_the_name_of_a_file(self):
        self.assertEqual(file_name("a/b.txt", SUM), SUM + ".a/b.txt")
        self.assertEqual(file_name(path="a", digest="f" * 18), "f" * 18 + ".a")

    def test_values_that_are_no_documents(self):
        for value in FOREIGN + NO_STRINGS + [(), "stamp", ("charter", 1), ("stamp", 1, 2, 3), list(STAMP), grant("a"),
                                             ONE]:
            with self.subTest(repr(value)), self.assertRaises(BadDocument):
                published_name(value)
        for document in DOCUMENTS.values():
            for worth in [None, True, "A"]:
                for value in replaced(document, worth):
                    with self.subTest(repr(value)), self.assertRaises(BadDocument):
                        published_name(value)


class Examples(unittest.TestCase):
    def test_the_examples_of_the_interface(self):
        self.assertIs(is_role((2, ("k1", "k2", "k7"))), True)
        self.assertIs(is_role((2, ("k2", "k1"))), False)
        self.assertEqual(published_name(("shelf", 4, 90, (("list", 2, 10, "0123456789abcdef01"),))), "4.shelf")
        self.assertEqual(decode(write(CHARTER)), CHARTER)


if __name__ == "__main__":
    unittest.main()

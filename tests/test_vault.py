"""Points 501 and 502: what a client stores, and what comes back from there."""

import itertools
import unittest

from kit import (
    NO_STRINGS, OTHER_ROLES, ROLES, answers, charter, entry, foreign_texts, listing, replaced, shelf, signed, signed_by,
    stamp, stored, unsealed,
)

from sealchart.client import Client
from sealchart.disk import Disk
from sealchart.errors import BadState, DiskCrashed
from sealchart.seals import Seals
from sealchart.texts import encode
from sealchart.trusted import Trusted
from sealchart.vault import discard, load, store

CHARTER, STAMP, SHELF, LIST = ROLES


class Case(unittest.TestCase):
    def setUp(self):
        self.office = Seals()
        self.disk = Disk()
        self.first = signed(self.office, charter(), CHARTER)
        self.list = signed(self.office, listing(), LIST)
        self.shelf = signed(self.office, shelf(2, {"list": entry(self.list, 1)}), SHELF)
        self.stamp = signed(self.office, stamp(3, self.shelf, 2), STAMP)
        self.trusted = Trusted(self.office, self.first)

    def fill(self):
        self.trusted.accept_stamp(self.stamp)
        self.trusted.accept_shelf(self.shelf)
        for kind in ["charter", "stamp", "shelf"]:
            store(self.disk, self.trusted, kind)

    def bad(self, first=None):
        """Neither `load` nor a client can use what is stored, and the disk stays as it is."""
        before = stored(self.disk)
        for call in [lambda one: load(self.office, self.disk, one), lambda one: Client(self.disk, self.office, one)]:
            with self.assertRaises(BadState):
                call(first if first is not None else self.first)
            self.assertEqual(stored(self.disk), before)


class Stored(Case):
    def test_the_texts(self):
        self.trusted.accept_stamp(self.stamp)
        self.trusted.accept_shelf(self.shelf)
        told = {}
        for kind, text in [("charter", self.first), ("stamp", encode((self.stamp, (STAMP, SHELF)))),
                           ("shelf", self.shelf)]:
            self.assertIsNone(store(self.disk, self.trusted, kind))
            told[kind] = text
            self.assertEqual(stored(self.disk), told)

    def test_the_roles_are_those_of_the_stamp(self):
        self.fill()
        after = charter(2, roles=ROLES[:1] + OTHER_ROLES[1:])
        self.trusted.accept_charter(signed(self.office, after, CHARTER))
        store(self.disk, self.trusted, "stamp")
        self.assertEqual(self.disk.read("stamp"), encode((self.stamp, (STAMP, SHELF))))

    def test_one_put_each(self):
        self.fill()
        for kind in ["charter", "stamp", "shelf"]:
            for kept in [True, False]:
                disk = Disk()
                disk.put(kind, "before")
                disk.arm(0, kept)
                with self.assertRaises(DiskCrashed):
                    store(disk, self.trusted, kind)
                disk.restart()
                self.assertEqual(stored(disk), {kind: self.disk.read(kind) if kept else "before"})

    def test_what_was_there_is_replaced(self):
        self.fill()
        sealed = signed_by(self.office, charter(2), "k10", "k11")
        self.trusted.accept_charter(sealed)
        store(self.disk, self.trusted, "charter")
        self.assertEqual(self.disk.read("charter"), sealed)
        self.assertEqual(self.disk.names(), ["charter", "shelf", "stamp"])

    def test_the_trusted_set_does_not_change(self):
        self.fill()
        before = answers(self.trusted)
        for kind in ["charter", "stamp", "shelf"]:
            store(self.disk, self.trusted, kind)
        discard(self.disk)
        self.assertEqual(answers(self.trusted), before)


class Discarded(Case):
    def test_what_is_removed(self):
        for some in itertools.chain(*[itertools.combinations(["charter", "stamp", "shelf", "list.a"], many)
                                      for many in range(5)]):
            disk = Disk()
            for name in some:
                disk.put(name, "text")
            self.assertIsNone(discard(disk))
            self.assertEqual(disk.names(), sorted(set(some) - {"stamp", "shelf"}))

    def test_the_shelf_goes_first(self):
        for count, kept, told in [(0, False, ["shelf", "stamp"]), (0, True, ["stamp"]), (1, False, ["stamp"]),
                                  (1, True, [])]:
            disk = Disk()
            disk.put("stamp", "a")
            disk.put("shelf", "b")
            disk.arm(count, kept)
            with self.assertRaises(DiskCrashed):
                discard(disk)
            disk.restart()
            self.assertEqual(disk.names(), told)

    def test_empty_texts_are_texts(self):
        self.disk.put("stamp", "")
        self.disk.put("shelf", "")
        discard(self.disk)
        self.assertEqual(self.disk.names(), [])


class Loaded(Case):
    def test_an_empty_disk(self):
        trusted = load(self.office, self.disk, self.first)
        self.assertIsInstance(trusted, Trusted)
        self.assertEqual(answers(trusted), answers(self.trusted))
        self.assertEqual(self.disk.names(), [])

    def test_a_set_that_was_stored(self):
        for many in range(1, 4):
            self.setUp()
            self.trusted.accept_stamp(self.stamp)
            if many == 3:
                self.trusted.accept_shelf(self.shelf)
            for kind in ["charter", "stamp", "shelf"][:many]:
                store(self.disk, self.trusted, kind)
            if many == 1:
                self.trusted.forget()
            self.assertEqual(answers(load(self.office, self.disk, self.first)), answers(self.trusted))

    def test_the_stored_charter_comes_before_the_first_one(self):
        sealed = signed(self.office, charter(5), CHARTER)
        self.disk.put("charter", sealed)
        for first in [self.first, "a", "", unsealed(charter())] + NO_STRINGS:
            self.assertEqual(load(self.office, self.disk, first).charter(), charter(5))
            self.assertEqual(Client(self.disk, self.office, first).versions(), (5, 0, 0))

    def test_a_set_that_is_outdated(self):
        self.fill()
        self.disk.put("charter", signed(self.office, charter(2, roles=OTHER_ROLES), *OTHER_ROLES))
        trusted = load(self.office, self.disk, self.first)
        self.assertIs(trusted.outdated(), True)
        self.assertEqual(trusted.roles(), (STAMP, SHELF))
        self.assertEqual((trusted.stamp()[1], trusted.shelf()[1]), (3, 2))

    def test_a_shelf_without_a_stamp_is_not_looked_at(self):
        for text in [self.shelf, "", "a", self.stamp, unsealed(("shelf",))]:
            self.disk.put("shelf", text)
            trusted = load(self.office, self.disk, self.first)
            self.assertEqual(answers(trusted), answers(self.trusted))
            self.assertEqual(Client(self.disk, self.office, self.first).versions(), (1, 0, 0))
        self.assertEqual(self.disk.names(), ["shelf"])

    def test_other_texts_are_not_looked_at(self):
        for name in ["list.list", "list.a", "file.a", "stamps", "first"]:
            self.disk.put(name, "a")
        self.assertEqual(answers(load(self.office, self.disk, self.first)), answers(self.trusted))

    def test_nothing_is_written(self):
        self.fill()
        self.disk.arm(0, True)
        load(self.office, self.disk, self.first)
        Client(self.disk, self.office, self.first)


class Bad(Case):
    def test_a_first_charter_that_is_refused(self):
        for first in NO_STRINGS[1:] + foreign_texts(self.office, "charter") + [unsealed(charter())]:
            self.bad(first)
        with self.assertRaises(BadState):
            load(self.office, self.disk, None)
        self.bad(signed_by(self.office, charter(), "k10"))
        self.bad(signed(Seals(), charter(expires=5), CHARTER))

    def test_a_stored_charter(self):
        for text in foreign_texts(self.office, "charter") + [unsealed(charter()),
                                                             signed_by(self.office, charter(2), "k10")]:
            self.disk.put("charter", text)
            self.bad()

    def test_a_stored_stamp(self):
        self.fill()
        for text in ["", "a", "[]", "0.", self.stamp, self.stamp + " ", encode(self.stamp),
                     encode(((STAMP, SHELF), self.stamp))]:
            self.disk.put("stamp", text)
            self.bad()
        for text in foreign_texts(self.office, "stamp"):
            self.disk.put("stamp", encode((text, (STAMP, SHELF))))
            self.bad()
        good = encode((self.stamp, (STAMP, SHELF)))
        for text in [good + " ", " " + good, good[:-1], good[1:], good * 2, "[" + good + "]"]:
            self.disk.put("stamp", text)
            self.bad()
        self.disk.put("stamp", good)
        self.assertEqual(load(self.office, self.disk, self.first).stamp()[1], 3)

    def test_the_form_of_a_stored_stamp(self):
        self.fill()
        roles = (STAMP, SHELF)
        for value in [(), (self.stamp,), (self.stamp, roles, 0), (self.stamp, STAMP, SHELF), (0, roles), ((), roles),
                      ((self.stamp,), roles), (self.stamp, ()), (self.stamp, 0), (self.stamp, "a"), (self.stamp, "ab"),
                      (self.stamp, STAMP), (self.stamp, (STAMP,)), (self.stamp, roles + (LIST,)), (self.stamp, ROLES),
                      (self.stamp, (0, 0)), (self.stamp, ("", "")), (self.stamp, ((), ()))]:
            self.disk.put("stamp", encode(value))
            self.bad()

    def test_the_roles_of_a_stored_stamp(self):
        self.fill()
        for worth in [0, 4, "", "k", "a", (), ("a",), ((),), 10 ** 13]:
            for roles in replaced((STAMP, SHELF), worth):
                self.disk.put("stamp", encode((self.stamp, roles)))
                self.bad()
        for roles in [(SHELF, STAMP), OTHER_ROLES[1:3], (STAMP, STAMP)]:
            self.disk.put("stamp", encode((self.stamp, roles)))
            self.assertEqual(load(self.office, self.disk, self.first).roles(), roles)

    def test_a_stored_shelf(self):
        self.fill()
        for text in foreign_texts(self.office, "shelf"):
            self.disk.put("shelf", text)
            self.bad()
        self.disk.put("shelf", unsealed(shelf(7, {"list": entry("a", 1)})))
        self.assertEqual(Client(self.disk, self.office, self.first).versions(), (1, 3, 7))

    def test_a_disk_that_has_crashed(self):
        self.disk.arm(0, True)
        with self.assertRaises(DiskCrashed):
            self.disk.put("a", "b")
        for call in [lambda: load(self.office, self.disk, self.first),
                     lambda: Client(self.disk, self.office, self.first)]:
            with self.assertRaises(DiskCrashed):
                call()


if __name__ == "__main__":
    unittest.main()

"""Points 503 to 510: the client."""

import itertools
import unittest

from kit import (
    FOREIGN, LATE, NO_STRINGS, OTHER_ROLES, ROLES, Mirror, answers, charter, content, entry, foreign_texts, good, grant,
    listing, padded, refresh, role, serve, shelf, signed, signed_by, stamp, stored, swapped, unsealed,
)

from sealchart.client import Client
from sealchart.digests import digest
from sealchart.disk import Disk
from sealchart.documents import file_name, published_name
from sealchart.errors import BadState, DiskCrashed
from sealchart.limits import MOST_CHARTER, MOST_LISTS, MOST_STAMP, MOST_TURNS
from sealchart.seals import Seals
from sealchart.texts import encode
from sealchart.trusted import Trusted
from sealchart.vault import load
from sealchart.workshop import Workshop

CHARTER, STAMP, SHELF, LIST = ROLES
BASE = role(1, "k50")
FILES = {"top": "at the top", "a/x": "the text of x", "a/deep": "", "b/y": "y" * 300}
PLACES = {"top": "list", "a/x": "a", "a/deep": "c", "b/y": "b"}


def shop(office, roles=ROLES, expires=900):
    """A workshop with files in four lists, not published yet."""
    workshop = Workshop(office, roles, expires)
    workshop.grant("list", grant("a", ["a/*"], by=BASE))
    workshop.grant("list", grant("b", ["b/*", "z"], 1, role(2, "k60", "k61")))
    workshop.grant("a", grant("c", ["a/d*"], by=role(1, "k70")))
    for path, name in PLACES.items():
        workshop.put(name, path, FILES[path])
    return workshop


class Case(unittest.TestCase):
    def setUp(self):
        self.office = Seals()
        self.workshop = shop(self.office)
        self.workshop.publish(100)
        self.disk = Disk()
        self.client = self.new_client()
        self.mirror = Mirror(self.workshop)

    def new_client(self):
        return Client(self.disk, self.office, self.workshop.first())

    def renew_client(self):
        """A new client on an empty disk."""
        self.disk = Disk()
        self.client = self.new_client()

    def text(self, name):
        return self.workshop.text(name)

    def want(self, name):
        """What a client wants if it wants the published text of this name."""
        most = {"charter": MOST_CHARTER, "stamp": MOST_STAMP}.get(name.split(".")[-1])
        return (name, most if most is not None else len(self.text(name)))

    def refresh(self, time=0, **instead):
        """Refresh with the published texts, but for what is handed out instead, and return the wanted names."""
        mirror = Mirror(self.workshop, {name.replace("_", "."): text for name, text in instead.items()})
        refresh(self.client, mirror, time)
        return [name for name, _ in mirror.asked]

    def search(self, call, path, **instead):
        mirror = Mirror(self.workshop, instead)
        self.assertIsNone(call(path))
        serve(self.client, mirror)
        return [name for name, _ in mirror.asked]

    def until(self, name, time=0, instead=None):
        """Begin a refresh, and answer until the text of this name is wanted."""
        self.client.start(time)
        mirror = Mirror(self.workshop, instead)
        while self.client.wanted() is not None and self.client.wanted()[0] != name:
            self.client.give(mirror.answer(self.client.wanted()))
        self.assertEqual(self.client.wanted()[0], name)

    def assert_idle(self, status):
        """The client has this status, and wants nothing."""
        self.assertEqual(self.client.status(), status)
        self.assertIsNone(self.client.wanted())
        for text in [None, "a", self.text("stamp")]:
            with self.assertRaises(BadState):
                self.client.give(text)
        self.assertEqual(self.client.status(), status)

    def assert_no_search(self):
        status, wanted = self.client.status(), self.client.wanted()
        for path in ["top", "a/x", "", None]:
            for call in [self.client.look, self.client.install]:
                with self.assertRaises(BadState):
                    call(path)
        self.assertEqual((self.client.status(), self.client.wanted()), (status, wanted))

    def fails(self, text, reason, name=None):
        """Giving the text fails for this reason, and changes neither the trusted set nor the disk."""
        wanted = self.client.wanted()[0]
        before = answers(self.client.trusted()), stored(self.disk)
        self.assertIsNone(self.client.give(text))
        self.assert_idle(("failed", reason, name if name is not None else wanted))
        self.assert_no_search()
        self.assertEqual((answers(self.client.trusted()), stored(self.disk)), before)

    def assert_kept(self):
        """What is stored is what the trusted set holds."""
        again = load(self.office, self.disk, self.workshop.first())
        self.assertEqual(answers(again)[:7], answers(self.client.trusted())[:7])


class New(Case):
    def test_a_new_client(self):
        self.assert_idle(("new",))
        self.assert_no_search()
        self.assertEqual(self.client.versions(), (1, 0, 0))
        self.assertIsInstance(self.client.trusted(), Trusted)
        self.assertEqual(self.client.trusted().charter(), self.workshop.charters()[0])
        self.assertEqual(self.disk.names(), [])

    def test_start_wants_the_next_charter(self):
        for time in [0, 1, 5, LATE]:
            self.assertIsNone(self.client.start(time))
            self.assertEqual(self.client.wanted(), ("2.charter", 4000))
            self.assertEqual(self.client.status(), ("busy",))
            self.assert_no_search()

    def test_values_that_are_no_times(self):
        for time in FOREIGN + ["0", (), (0,), [0]]:
            with self.subTest(repr(time)), self.assertRaises(BadState):
                self.client.start(time)
            self.assertEqual((self.client.status(), self.client.wanted()), (("new",), None))
        self.until("stamp", 5)
        for time in FOREIGN:
            with self.assertRaises(BadState):
                self.client.start(time)
            self.assertEqual((self.client.status(), self.client.wanted()), (("busy",), ("stamp", 2000)))
        serve(self.client, self.mirror)
        self.assertEqual(self.client.status(), ("ready", 1))

    def test_a_bad_first_charter(self):
        for first in NO_STRINGS + foreign_texts(self.office, "charter") + [unsealed(charter())]:
            with self.assertRaises(BadState):
                Client(Disk(), self.office, first)


class Refreshes(Case):
    def test_each_step(self):
        client, disk = self.client, self.disk
        client.start(7)
        told = {}
        for name, put, text in [
            ("2.charter", None, None), ("stamp", "stamp", encode((self.text("stamp"), (STAMP, SHELF)))),
            ("1.shelf", "shelf", self.text("1.shelf")), ("1.list.list", "list.list", self.text("1.list.list")),
        ]:
            self.assertEqual(client.status(), ("busy",))
            self.assertEqual(client.wanted(), self.want(name))
            self.assertEqual(stored(disk), told)
            self.assertIsNone(client.give(self.text(name)))
            if put:
                told[put] = text
        self.assert_idle(("ready", 1))
        self.assertEqual(stored(disk), told)
        self.assertEqual(client.versions(), (1, 1, 1))
        self.assertEqual(client.trusted().list_role("list"), LIST)
        self.assert_kept()

    def test_the_greatest_lengths(self):
        self.refresh()
        self.workshop.put("list", "new", "x")
        self.workshop.publish(100)
        mirror = Mirror(self.workshop)
        refresh(self.client, mirror)
        self.assertEqual(mirror.asked, [
            ("2.charter", 4000), ("stamp", 2000), ("2.shelf", len(self.text("2.shelf"))),
            ("2.list.list", len(self.text("2.list.list"))),
        ])

    def test_a_refresh_without_news_stores_nothing(self):
        self.refresh()
        before = stored(self.disk)
        for client in [self.client, self.new_client()]:
            self.client = client
            self.disk.arm(0, True)
            self.assertEqual(self.refresh(), ["2.charter", "stamp"])
            self.assert_idle(("ready", 1))
            self.assertEqual(stored(self.disk), before)

    def test_a_renewed_stamp(self):
        self.refresh()
        self.workshop.renew(200)
        self.disk.arm(1, True)
        self.assertEqual(self.refresh(150 - 60), ["2.charter", "stamp"])
        self.assert_idle(("ready", 1))
        self.assertEqual(self.client.versions(), (1, 2, 1))
        self.assertEqual(self.disk.read("stamp"), encode((self.text("stamp"), (STAMP, SHELF))))
        with self.assertRaises(DiskCrashed):
            self.disk.put("a", "b")

    def test_the_same_stamp_with_other_seals_is_stored(self):
        self.refresh()
        other = signed_by(self.office, content(self.text("stamp")), "k21")
        self.assertNotEqual(other, self.text("stamp"))
        self.refresh(stamp=other)
        self.assert_idle(("ready", 1))
        self.assertEqual(self.disk.read("stamp"), encode((other, (STAMP, SHELF))))
        self.assert_kept()

    def test_a_new_publication(self):
        self.refresh()
        self.workshop.put("a", "a/new", "x")
        self.workshop.publish(100)
        self.assertEqual(self.refresh(), ["2.charter", "stamp", "2.shelf"])
        self.assert_idle(("ready", 2))
        self.workshop.put("list", "new", "x")
        self.workshop.publish(100)
        self.assertEqual(self.refresh(), ["2.charter", "stamp", "3.shelf", "2.list.list"])
        self.assert_idle(("ready", 3))
        self.assertEqual(self.client.versions(), (1, 3, 3))
        self.assertEqual(self.disk.read("list.list"), self.text("2.list.list"))
        self.assert_kept()

    def test_a_stored_list_is_used(self):
        self.refresh()
        self.client = self.new_client()
        self.assertIsNone(self.client.trusted().list_of("list"))
        self.assertEqual(self.refresh(), ["2.charter", "stamp"])
        self.assertEqual(self.client.trusted().list_of("list"), self.workshop.snapshot(1)[1]["list"])

    def test_a_stored_list_that_is_not_accepted(self):
        self.refresh()
        for text in ["", "a", self.text("1.a.list"), self.text("1.list.list") + " ", swapped(self.text("1.list.list"))]:
            self.disk.put("list.list", text)
            self.client = self.new_client()
            self.assertEqual(self.refresh(), ["2.charter", "stamp", "1.list.list"])
            self.assert_idle(("ready", 1))
            self.assertEqual(self.disk.read("list.list"), self.text("1.list.list"))

    def test_start_while_the_client_is_busy(self):
        for name in ["2.charter", "stamp", "1.shelf", "1.list.list"]:
            self.until(name)
            self.client.start(3)
            self.assertEqual(self.client.wanted(), ("2.charter", 4000))
            self.client.give(None)
            self.assertEqual(self.client.wanted(), ("stamp", 2000))
        self.refresh()
        for path in ["b/y", "top"]:
            self.client.install(path)
            self.client.start(3)
            self.assertEqual(self.client.wanted(), ("2.charter", 4000))
            serve(self.client, self.mirror)
            self.assert_idle(("ready", 1))
        self.assertEqual([name for name in self.disk.names() if name.startswith("file")], [])

    def test_the_time_is_the_one_of_the_newest_start(self):
        self.client.start(100)
        self.client.start(99)
        self.assertEqual(serve(self.client, self.mirror), ("ready", 1))
        self.client.start(99)
        self.client.start(100)
        self.assertEqual(serve(self.client, self.mirror), ("failed", "expired", "stamp"))

    def test_times_in_any_order(self):
        for time, told in [(5, True), (0, True), (100, False), (99, True), (50, True), (LATE, False), (50, True)]:
            self.refresh(time)
            self.assertEqual(self.client.status()[0] == "ready", told)


class Charters(Case):
    def test_charters_one_behind_the_other(self):
        for at in range(3):
            self.workshop.turn(ROLES, 900)
        self.assertEqual(self.refresh()[:5], ["2.charter", "3.charter", "4.charter", "5.charter", "stamp"])
        self.assert_idle(("ready", 1))
        self.assertEqual(self.client.versions(), (4, 1, 1))
        self.assertEqual(self.disk.read("charter"), self.text("4.charter"))
        self.assert_kept()

    def test_each_charter_is_stored_at_once(self):
        for at in range(3):
            self.workshop.turn(ROLES, 900)
        self.client.start(0)
        for version in [2, 3, 4]:
            self.client.give(self.text(f"{version}.charter"))
            self.assertEqual(stored(self.disk), {"charter": self.text(f"{version}.charter")})
            self.assertEqual(self.new_client().versions(), (version, 0, 0))
            self.assertEqual(self.client.wanted(), (f"{version + 1}.charter", 4000))

    def test_how_many_charters(self):
        for many in [15, 16, 17, 40]:
            self.setUp()
            for _ in range(many):
                self.workshop.turn(ROLES, 900)
            with self.subTest(many):
                asked = self.refresh()
                charters = [name for name in asked if name.endswith("charter")]
                self.assertEqual(len(charters), min(many + 1, MOST_TURNS))
                self.assertEqual(self.client.versions()[0], 1 + min(many, MOST_TURNS))
                self.assert_idle(("ready", 1))
                for _ in range(3):
                    self.refresh()
                self.assertEqual(self.client.versions()[0], 1 + many)

    def test_the_greatest_number_of_wanted_texts(self):
        for many, told in [(15, 19), (16, 19), (17, 19), (40, 19), (0, 4)]:
            self.setUp()
            for _ in range(many):
                self.workshop.turn(ROLES, 900)
            self.assertEqual(len(self.refresh()), told)
            self.assertLessEqual(told, MOST_TURNS + 3)

    def test_answers_that_are_refused(self):
        after = charter(2, 900)
        for text, reason in [
            (signed(self.office, after, LIST), "seals"), (unsealed(after), "seals"),
            (signed_by(self.office, after, "k10"), "seals"),
            (signed(self.office, charter(3), CHARTER), "version"), (self.workshop.first(), "version"),
            (unsealed(charter(7)), "version"), (unsealed(("charter", 2)), "form"), ("", "form"), ("a" * 4000, "form"),
            ("a" * 4001, "length"), (padded(signed(self.office, after, CHARTER), 4001), "length"),
            ("a" * 10 ** 6, "length"),
        ]:
            self.until("2.charter")
            self.fails(text, reason)
        for text in foreign_texts(self.office, "charter"):
            self.until("2.charter")
            self.fails(text, "form")
        for value in NO_STRINGS[1:]:
            self.until("2.charter")
            self.fails(value, "length")

    def test_a_refused_charter_behind_an_accepted_one(self):
        self.workshop.turn(ROLES, 900)
        self.until("3.charter")
        self.fails(self.text("2.charter"), "version")
        self.assertEqual(self.client.versions(), (2, 0, 0))
        self.assertEqual(self.disk.read("charter"), self.text("2.charter"))

    def test_an_expired_charter(self):
        for time, told in [(899, False), (900, True), (901, True), (LATE, True)]:
            self.setUp()
            self.workshop.publish(LATE)
            self.client.start(time)
            self.client.give(None)
            if told:
                self.assert_idle(("failed", "expired", "1.charter"))
                self.assert_no_search()
                self.assertEqual(self.disk.names(), [])
            else:
                self.assertEqual(self.client.wanted(), ("stamp", 2000))

    def test_an_expired_charter_on_the_way(self):
        self.workshop.turn(ROLES, 10)
        self.workshop.turn(ROLES, 900)
        self.refresh(50)
        self.assert_idle(("ready", 1))
        self.workshop.turn(ROLES, 50)
        self.assertEqual(self.refresh(50), ["4.charter", "5.charter"])
        self.assert_idle(("failed", "expired", "4.charter"))
        self.assertEqual(self.client.versions(), (4, 1, 1))
        self.assert_kept()

    def test_an_expired_charter_behind_the_greatest_number(self):
        for _ in range(20):
            self.workshop.turn(ROLES, 10)
        self.refresh(10)
        self.assert_idle(("failed", "expired", "17.charter"))


class Outdated(Case):
    def test_an_outdated_set(self):
        for at in [1, 2]:
            self.setUp()
            self.refresh()
            roles = ROLES[:at] + OTHER_ROLES[at:at + 1] + ROLES[at + 1:]
            self.workshop.turn(roles, 900)
            self.workshop.publish(100)
            self.until("stamp")
            with self.subTest(at):
                self.assertEqual(self.client.versions(), (2, 0, 0))
                self.assertIsNone(self.client.trusted().list_of("list"))
                self.assertEqual(self.disk.names(), ["charter", "list.list"])
                serve(self.client, self.mirror)
                self.assert_idle(("ready", 2))
                self.assertEqual(self.disk.read("stamp"), encode((self.text("stamp"), roles[1:3])))
                self.assert_kept()

    def test_a_stamp_without_a_shelf(self):
        self.until("1.shelf")
        self.workshop.turn(ROLES[:1] + OTHER_ROLES[1:], 900)
        self.workshop.publish(100)
        self.until("stamp")
        self.assertEqual(self.disk.names(), ["charter"])
        self.assertEqual(self.client.versions(), (2, 0, 0))

    def test_an_expired_charter_comes_first(self):
        self.refresh()
        self.workshop.turn(ROLES[:1] + OTHER_ROLES[1:], 50)
        self.refresh(60)
        self.assert_idle(("failed", "expired", "2.charter"))
        self.assertEqual(self.client.versions(), (2, 1, 1))
        self.assertEqual(self.disk.names(), ["charter", "list.list", "shelf", "stamp"])

    def test_roles_that_come_back_in_one_refresh(self):
        self.refresh()
        self.workshop.turn(OTHER_ROLES, 900)
        self.workshop.turn(ROLES, 900)
        self.disk.arm(2, False)
        self.assertEqual(self.refresh(), ["2.charter", "3.charter", "4.charter", "stamp"])
        self.assert_idle(("ready", 1))
        self.assertEqual(self.client.versions(), (3, 1, 1))

    def test_other_roles_charter_and_list_alone(self):
        self.refresh()
        self.workshop.turn(OTHER_ROLES[:1] + ROLES[1:3] + OTHER_ROLES[3:], 900)
        self.until("stamp")
        self.assertEqual(self.client.versions(), (2, 1, 1))
        self.assertEqual(self.disk.names(), ["charter", "list.list", "shelf", "stamp"])

    def test_a_new_role_for_the_top_list(self):
        self.refresh()
        # The same keys with another threshold: the stored text will do.
        self.workshop.turn(ROLES[:3] + (role(2, *LIST[1]),), 900)
        self.assertEqual(self.refresh(), ["2.charter", "3.charter", "stamp"])
        self.assert_idle(("ready", 1))
        self.assertEqual(self.client.trusted().list_role("list"), (2, LIST[1]))
        # Other keys: neither the trusted nor the stored text will do.
        self.workshop.turn(ROLES[:3] + OTHER_ROLES[3:], 900)
        self.workshop.publish(100)
        self.assertEqual(self.refresh(), ["3.charter", "4.charter", "stamp", "2.shelf", "2.list.list"])
        self.assert_idle(("ready", 2))

    def test_a_top_list_that_the_new_role_did_not_sign(self):
        self.refresh()
        self.workshop.turn(ROLES[:3] + OTHER_ROLES[3:], 900)
        self.assertEqual(self.refresh(), ["2.charter", "3.charter", "stamp", "1.list.list"])
        self.assert_idle(("failed", "seals", "1.list.list"))


class Stamps(Case):
    def test_answers_that_are_refused(self):
        self.refresh()
        self.workshop.publish(100)
        newest = content(self.text("stamp"))
        for text, reason in [
            (None, "missing"), ("", "form"), ("a" * 2000, "form"), ("a" * 2001, "length"), ("a" * 10 ** 6, "length"),
            (padded(self.text("stamp"), 2001), "length"), (unsealed(newest), "seals"),
            (swapped(self.text("stamp")), "form"),
            (signed(self.office, newest, SHELF), "seals"), (signed_by(self.office, newest), "seals"),
            (signed(self.office, stamp(1, "other", 1), STAMP), "version"),
            (signed(self.office, stamp(1, self.text("1.shelf"), 1, 101), STAMP), "version"),
        ]:
            self.until("stamp")
            self.fails(text, reason)
        for text in foreign_texts(self.office, "stamp"):
            self.until("stamp")
            self.fails(text, "form")
        for value in NO_STRINGS[1:]:
            self.until("stamp")
            self.fails(value, "length")
        self.refresh()
        self.assert_idle(("ready", 2))
        older = self.workshop.stamps()[0]
        self.until("stamp")
        self.fails(older, "version")

    def test_an_expired_stamp_is_accepted_and_stored(self):
        for time, told in [(99, False), (100, True), (101, True)]:
            self.setUp()
            self.until("stamp", time)
            self.client.give(self.text("stamp"))
            self.assertEqual(self.client.versions(), (1, 1, 0))
            self.assertEqual(stored(self.disk), {"stamp": encode((self.text("stamp"), (STAMP, SHELF)))})
            if told:
                self.assert_idle(("failed", "expired", "stamp"))
                self.assert_no_search()
            else:
                self.assertEqual(self.client.wanted(), self.want("1.shelf"))

    def test_a_stamp_that_expires_later_brings_the_client_home(self):
        self.refresh()
        self.refresh(100)
        self.assert_idle(("failed", "expired", "stamp"))
        self.workshop.publish(200)
        self.refresh(150)
        self.assert_idle(("ready", 2))


class Shelves(Case):
    def test_answers_that_are_refused(self):
        self.refresh()
        self.workshop.publish(100)
        right = self.text("2.shelf")
        for text, reason in [
            (None, "missing"), ("", "length"), (right[:-1], "length"), (right + " ", "length"),
            ("a" * 10 ** 6, "length"),
            (padded("a", len(right)), "digest"), (swapped(right), "digest"), (self.text("1.shelf"), "digest"),
        ] + [(value, "length") for value in NO_STRINGS[1:]]:
            self.until("2.shelf")
            self.fails(text, reason)
            self.assertEqual(self.client.versions(), (1, 2, 1))
        self.refresh()
        self.assert_idle(("ready", 2))

    def test_what_a_stamp_names(self):
        rows = {"list": entry("a", 1)}
        for text, reason in [
            ("a", "form"), (unsealed(("shelf", 5)), "form"), (self.text("1.list.list"), "form"),
            (unsealed(shelf(5, rows)), "seals"), (signed_by(self.office, shelf(5, rows), "k30"), "seals"),
            (signed(self.office, shelf(4, rows), SHELF), "version"),
            (signed(self.office, shelf(5, rows), SHELF), "version"),
        ]:
            self.renew_client()
            self.refresh()
            name = signed(self.office, stamp(5, text, 5), STAMP)
            self.until("5.shelf", instead={"stamp": name})
            self.assertEqual(self.client.wanted(), ("5.shelf", len(text)))
            with self.subTest(reason):
                self.fails(text, reason)

    def test_the_greatest_length_may_be_any(self):
        for length in [0, 1, 10 ** 6, LATE]:
            self.setUp()
            document = ("stamp", 1, 100, (1, length, digest("")))
            self.until("1.shelf", instead={"stamp": signed(self.office, document, STAMP)})
            self.assertEqual(self.client.wanted(), ("1.shelf", length))
            self.fails("", "form" if length == 0 else "length")

    def test_an_expired_shelf(self):
        for time in [100, 150]:
            self.setUp()
            self.workshop.renew(500)
            self.until("1.shelf", time)
            self.client.give(self.text("1.shelf"))
            self.assert_idle(("failed", "expired", "1.shelf"))
            self.assert_no_search()
            self.assertEqual(self.client.versions(), (1, 2, 1))
            self.assertEqual(self.disk.read("shelf"), self.text("1.shelf"))
            self.assert_kept()
            # Also if no text was needed.
            for client in [self.client, self.new_client()]:
                self.client = client
                self.assertEqual(self.refresh(time), ["2.charter", "stamp"])
                self.assert_idle(("failed", "expired", "1.shelf"))
        self.assertEqual(self.refresh(99)[:2], ["2.charter", "stamp"])
        self.assert_idle(("ready", 1))

    def test_a_shelf_that_is_current_already(self):
        self.until("1.list.list")
        self.assertEqual(self.refresh(), ["2.charter", "stamp", "1.list.list"])
        self.client = self.new_client()
        self.disk.remove("list.list")
        self.assertEqual(self.refresh(), ["2.charter", "stamp", "1.list.list"])

    def test_other_seals_of_the_shelf(self):
        self.refresh()
        other = signed_by(self.office, self.workshop.snapshot(1)[0], "k30", "k32")
        name = signed(self.office, stamp(2, other, 1, 100), STAMP)
        asked = self.refresh(stamp=name, **{"1_shelf": other})
        self.assertEqual(asked, ["2.charter", "stamp", "1.shelf"])
        self.assert_idle(("ready", 1))
        self.assertEqual(self.disk.read("shelf"), other)


class TopLists(Case):
    def test_answers_that_are_refused(self):
        right = self.text("1.list.list")
        for text, reason in [
            (None, "missing"), ("", "length"), (right[:-1], "length"), (right + " ", "length"),
            ("a" * 10 ** 6, "length"),
            (padded("a", len(right)), "digest"), (swapped(right), "digest"),
        ] + [(value, "length") for value in NO_STRINGS[1:]]:
            self.until("1.list.list")
            self.fails(text, reason)
            self.assertEqual(self.client.versions(), (1, 1, 1))
        self.refresh()
        self.assert_idle(("ready", 1))

    def test_what_a_shelf_names(self):
        for text, version, reason in [
            ("a", 3, "form"), (unsealed(("list", "list")), 3, "form"), (self.text("1.shelf"), 3, "form"),
            (signed(self.office, listing("a", 3), LIST), 3, "form"), (unsealed(listing(version=3)), 3, "seals"),
            (signed(self.office, listing(version=3), SHELF, BASE), 3, "seals"),
            (signed(self.office, listing(version=2), LIST), 3, "version"), (self.text("1.list.list"), 2, "version"),
        ]:
            self.renew_client()
            self.show(self.office, {"list": (version, text)})
            name = f"{version}.list.list"
            self.until(name, instead=self.instead)
            with self.subTest(reason):
                self.fails(text, reason)
                self.assertNotIn("list.list", self.disk.names())

    def show(self, office, lists):
        """Let a mirror hand out a stamp and a shelf of these lists."""
        rows = {name: entry(text, version) for name, (version, text) in lists.items()}
        sealed = signed(office, shelf(1, rows), SHELF)
        self.instead = {"1.shelf": sealed, "stamp": signed(office, stamp(1, sealed, 1), STAMP)}

    def test_an_expired_top_list(self):
        for time, told in [(49, True), (50, False), (60, False)]:
            self.setUp()
            text = signed(self.office, listing(expires=50, goods=[good("p")]), LIST)
            self.show(self.office, {"list": (1, text)})
            self.until("1.list.list", time, instead=self.instead)
            self.client.give(text)
            self.assertEqual(self.disk.read("list.list"), text)
            if told:
                self.assert_idle(("ready", 1))
                continue
            self.assert_idle(("failed", "expired", "1.list.list"))
            self.assert_no_search()
            # Also if the trusted set or the disk has it already.
            for client in [self.client, self.new_client()]:
                self.client = client
                mirror = Mirror(self.workshop, self.instead)
                self.assertEqual(refresh(client, mirror, time), ("failed", "expired", "1.list.list"))
                self.assertEqual(len(mirror.asked), 2)


class Searches(Case):
    def found(self, path):
        return ("found", path, PLACES[path], len(FILES[path]), digest(FILES[path]))

    def test_what_look_finds(self):
        self.refresh()
        for path, told in [("top", []), ("a/x", ["1.a.list"]), ("a/deep", ["1.c.list"]), ("b/y", ["1.b.list"])]:
            self.assertEqual(self.search(self.client.look, path), told)
            self.assert_idle(self.found(path))
        for path in ["zzz", "a/zzz", "a/d", "b/zzz", "z", "a", "a/x/x"]:
            self.assertEqual(self.search(self.client.look, path), [])
            self.assert_idle(("none", path))
        self.assertEqual([name for name in self.disk.names() if name.startswith("file")], [])
        self.assertEqual(self.disk.names(), ["list.a", "list.b", "list.c", "list.list", "shelf", "stamp"])
        for name in "abc":
            self.assertEqual(self.disk.read("list." + name), self.text(f"1.{name}.list"))

    def test_what_install_installs(self):
        self.refresh()
        told = {}
        for path in ["a/deep", "top", "b/y", "a/x", "a/deep"]:
            asked = self.search(self.client.install, path)
            self.assertEqual(asked[-1], file_name(path, digest(FILES[path])))
            self.assert_idle(self.found(path))
            told["file." + path] = FILES[path]
            files = {name: text for name, text in stored(self.disk).items() if name.startswith("file")}
            self.assertEqual(files, told)
        self.assertEqual(self.search(self.client.install, "zzz"), [])
        self.assert_idle(("none", "zzz"))

    def test_each_step_of_an_installation(self):
        self.refresh()
        client = self.client
        client.install("a/deep")
        for name in ["1.a.list", "1.c.list", file_name("a/deep", digest(""))]:
            self.assertEqual(client.status(), ("busy",))
            self.assertEqual(client.wanted(), self.want(name))
            self.assert_no_search()
            client.give(self.text(name))
        self.assert_idle(self.found("a/deep"))

    def test_the_role_of_a_list_is_that_of_its_grant(self):
        self.refresh()
        for path, name, by in [("a/x", "a", BASE), ("b/y", "b", role(2, "k60", "k61")),
                               ("a/deep", "c", role(1, "k70"))]:
            self.search(self.client.look, path)
            self.assertEqual(self.client.trusted().list_role(name), by)

    def test_values_that_are_no_paths(self):
        self.refresh()
        for status, path in [(("ready", 1), None), (self.found("top"), "top"), (("none", "zzz"), "zzz")]:
            if path:
                self.client.look(path)
            for bad in NO_STRINGS + ["", "/", "a/", "A", "a*", "a b", "a" * 61, "a/b/c/d/e/f/g", "\u00e9"]:
                for call in [self.client.look, self.client.install]:
                    with self.subTest(repr(bad)), self.assertRaises(BadState):
                        call(bad)
            self.assert_idle(status)

    def test_a_search_behind_each_status(self):
        self.assert_no_search()
        for name in ["2.charter", "stamp", "1.shelf", "1.list.list"]:
            self.until(name)
            self.assert_no_search()
            if name != "2.charter":
                self.fails(None, "missing")
        self.refresh()
        for call, path in [("look", "top"), ("look", "zzz"), ("install", "top"), ("install", "zzz"), ("look", "top")]:
            self.search(getattr(self.client, call), path)
            self.assertIn(self.client.status()[0], ["found", "none"])
        self.client.look("a/x")
        self.assert_no_search()
        self.fails(None, "missing", "1.a.list")
        self.assert_no_search()

    def test_a_stored_list_is_used(self):
        self.refresh()
        self.search(self.client.look, "a/deep")
        self.client = self.new_client()
        self.refresh()
        self.assertEqual(self.search(self.client.look, "a/deep"), [])
        self.assert_idle(self.found("a/deep"))
        for text in ["", "a", self.text("1.a.list"), swapped(self.text("1.c.list")), self.text("1.c.list") + " "]:
            self.disk.put("list.c", text)
            self.client = self.new_client()
            self.refresh()
            self.assertEqual(self.search(self.client.look, "a/deep"), ["1.c.list"])
            self.assertEqual(self.disk.read("list.c"), self.text("1.c.list"))

    def test_a_list_of_the_trusted_set_is_used_without_the_disk(self):
        self.refresh()
        self.search(self.client.look, "a/deep")
        for name in ["list.list", "list.a", "list.c"]:
            self.disk.put(name, "a")
        self.assertEqual(self.search(self.client.look, "a/deep"), [])
        self.assert_idle(self.found("a/deep"))

    def test_lists_that_a_new_shelf_names_as_before(self):
        self.refresh()
        self.search(self.client.look, "a/deep")
        self.workshop.put("c", "a/dnew", "x")
        self.workshop.publish(100)
        self.refresh()
        self.assertEqual(self.search(self.client.look, "a/deep"), ["2.c.list"])
        self.assertEqual(self.search(self.client.look, "a/x"), [])

    def test_answers_for_a_list_that_are_refused(self):
        right = self.text("1.c.list")
        for text, reason in [
            (None, "missing"), ("", "length"), (right[:-1], "length"), (right + " ", "length"),
            ("a" * 10 ** 6, "length"),
            (padded("a", len(right)), "digest"), (swapped(right), "digest"),
        ] + [(value, "length") for value in NO_STRINGS[1:]]:
            self.refresh()
            self.client.install("a/deep")
            if self.client.wanted()[0] == "1.a.list":
                self.client.give(self.text("1.a.list"))
            self.fails(text, reason, "1.c.list")
        self.refresh()
        self.search(self.client.install, "a/deep")
        self.assert_idle(self.found("a/deep"))

    def test_a_file_that_is_refused(self):
        right = FILES["a/x"]
        name = file_name("a/x", digest(right))
        for text, reason in [
            (None, "missing"), ("", "length"), (right[:-1], "length"), (right + " ", "length"),
            ("a" * 10 ** 6, "length"),
            (swapped(right), "digest"), (" " * len(right), "digest"),
        ] + [(value, "length") for value in NO_STRINGS[1:]]:
            self.refresh()
            self.search(self.client.look, "a/x")
            self.client.install("a/x")
            self.assertEqual(self.client.wanted(), (name, len(right)))
            self.fails(text, reason)
            self.assertNotIn("file.a/x", self.disk.names())
        self.refresh()
        self.search(self.client.install, "a/x")
        self.assertEqual(self.disk.read("file.a/x"), right)

    def test_an_installed_file_is_replaced(self):
        self.refresh()
        self.search(self.client.install, "a/x")
        self.workshop.put("a", "a/x", "new")
        self.workshop.publish(100)
        self.search(self.client.install, "a/x")
        self.assertEqual(self.disk.read("file.a/x"), FILES["a/x"])
        self.refresh()
        self.assertEqual(self.disk.read("file.a/x"), FILES["a/x"])
        self.search(self.client.install, "a/x")
        self.assertEqual(self.disk.read("file.a/x"), "new")

    def test_the_search_goes_on_where_the_time_allows(self):
        # A changed list expires earlier than the rest.
        self.workshop.put("c", "a/dnew", "x")
        self.workshop.publish(60)
        self.workshop.renew(100)
        for time, told in [(59, True), (60, False)]:
            self.renew_client()
            self.refresh(time)
            self.assertEqual(self.client.status()[0] == "ready", told)

    def test_an_expired_list(self):
        inner = signed(self.office, listing("b", expires=50, goods=[good("z")]), BASE)
        outer = signed(self.office, listing("a", expires=80, grants=[grant("b", by=BASE)]), BASE)
        top = signed(self.office, listing(grants=[grant("a", by=BASE)]), LIST)
        rows = {"list": entry(top, 1), "a": entry(outer, 1), "b": entry(inner, 1)}
        sealed = signed(self.office, shelf(1, rows), SHELF)
        instead = {"stamp": signed(self.office, stamp(1, sealed, 1), STAMP), "1.shelf": sealed, "1.list.list": top,
                   "1.a.list": outer, "1.b.list": inner, file_name("z", digest("text")): "text"}
        mirror = Mirror(self.workshop, instead)
        for time, told in [(49, None), (50, "1.b.list"), (79, "1.b.list"), (80, "1.a.list"), (81, "1.a.list")]:
            self.renew_client()
            for _ in range(2):
                refresh(self.client, mirror, time)
                self.assert_idle(("ready", 1))
                for call in [self.client.look, self.client.install]:
                    if self.client.status()[0] == "failed":
                        refresh(self.client, mirror, time)
                    call("z")
                    serve(self.client, mirror)
                    if told is None:
                        self.assert_idle(("found", "z", "b") + good("z")[1:])
                    else:
                        self.assert_idle(("failed", "expired", told))
                        self.assert_no_search()
                        self.assertNotIn("file.z", self.disk.names())
                # The list was accepted and stored all the same, and a new client finds it there.
                self.assertEqual(self.disk.read("list.a"), outer)
                if told != "1.a.list":
                    self.assertEqual(self.disk.read("list.b"), inner)
                self.client = self.new_client()

    def test_a_list_under_another_role(self):
        self.workshop.grant("b", grant("a", ["b/*"], by=role(1, "k51")))
        self.workshop.put("a", "b/new", "x")
        self.workshop.publish(100)
        self.refresh()
        self.assertEqual(self.search(self.client.look, "a/x"), ["2.a.list"])
        self.assertEqual(self.client.trusted().list_role("a"), BASE)
        # All keys of all grants signed the stored text, so it will do under the other role as well.
        self.assertEqual(self.search(self.client.look, "b/new"), ["2.b.list"])
        self.assert_idle(("found", "b/new", "a") + good("b/new", "x")[1:])
        self.assertEqual(self.client.trusted().list_role("a"), role(1, "k51"))
        self.disk.put("list.a", "a")
        self.assertEqual(self.search(self.client.look, "b/new"), [])
        self.assertEqual(self.search(self.client.look, "a/x"), ["2.a.list"])

    def test_a_list_that_the_other_role_did_not_sign(self):
        outer = signed(self.office, listing("b", grants=[grant("a", by=role(1, "k99"))]), BASE)
        inner = signed(self.office, listing("a", goods=[good("a"), good("z")]), BASE)
        top = signed(self.office, listing(grants=[grant("a", ["a"], by=BASE), grant("b", ["z"], by=BASE)]), LIST)
        sealed = signed(self.office, shelf(1, {"list": entry(top, 1), "a": entry(inner, 1), "b": entry(outer, 1)}),
                        SHELF)
        mirror = Mirror(self.workshop, {
            "stamp": signed(self.office, stamp(1, sealed, 1), STAMP), "1.shelf": sealed, "1.list.list": top,
            "1.a.list": inner, "1.b.list": outer,
        })
        refresh(self.client, mirror)
        self.client.look("a")
        self.assertEqual(serve(self.client, mirror)[0], "found")
        self.client.look("z")
        mirror.asked.clear()
        self.assertEqual(serve(self.client, mirror), ("failed", "seals", "1.a.list"))
        self.assertEqual([name for name, _ in mirror.asked], ["1.b.list", "1.a.list"])
        self.assertEqual(self.client.trusted().list_role("a"), BASE)

    def test_the_greatest_number_of_wanted_texts(self):
        names = ["".join(pair) for pair in itertools.islice(itertools.product("abcdefg", repeat=2), 40)]
        for many, found in [(30, 30), (31, 31), (31, None), (40, 31), (40, None)]:
            self.setUp()
            path, some = "p", ["list"] + names[:many]
            lists, rows = {}, {}
            for at, name in enumerate(some):
                document = listing(name, goods=[good(path)] if at == found else [],
                                   grants=[grant(some[at + 1], by=BASE)] if at < many else [])
                lists[published_name(document)] = signed(self.office, document, BASE, LIST)
                rows[name] = entry(lists[published_name(document)], 1)
            rows = {name: rows[name] for name in ["list"] + names[:min(many, MOST_LISTS - 1)]}
            sealed = signed(self.office, shelf(1, rows), SHELF)
            lists.update({"stamp": signed(self.office, stamp(1, sealed, 1), STAMP), "1.shelf": sealed,
                          file_name(path, digest("text")): "text"})
            mirror = Mirror(self.workshop, lists)
            refresh(self.client, mirror)
            # The top list is at hand behind a refresh; without it a search would want one text more.
            mirror.asked.clear()
            self.client.install(path)
            serve(self.client, mirror)
            with self.subTest((many, found)):
                reads = min(many, MOST_LISTS - 1)
                self.assertEqual(len(mirror.asked), reads + (1 if found is not None else 0))
                self.assertLessEqual(len(mirror.asked) + 1, MOST_LISTS + 1)
                self.assertEqual(self.client.status()[0], "none" if found is None else "found")


class Crashes(Case):
    def operations(self, prepare, act):
        """Run the act with a crash at each of its operations; yield the new clients behind the crashes."""
        for kept in [True, False]:
            for count in itertools.count():
                self.setUp()
                prepare()
                before = stored(self.disk)
                self.disk.arm(count, kept)
                try:
                    act()
                except DiskCrashed:
                    with self.assertRaises(DiskCrashed):
                        self.disk.names()
                    self.disk.restart()
                else:
                    self.assertGreater(count, 0)
                    self.disk.restart()
                    break
                self.client = self.new_client()
                yield count, kept, before
            self.counted = count

    def test_a_first_refresh(self):
        def turns():
            self.workshop.turn(ROLES, 900)
            self.workshop.turn(ROLES, 900)

        steps = [(1, 0, 0), (2, 0, 0), (3, 0, 0), (3, 1, 0), (3, 1, 1), (3, 1, 1)]
        for count, kept, _ in self.operations(turns, self.refresh):
            self.assertEqual(self.client.versions(), steps[count + 1 if kept else count])
            self.assert_idle(("new",))
            self.refresh()
            self.assert_idle(("ready", 1))
            self.assert_kept()
        self.assertEqual(self.counted, 5)

    def test_a_refresh_of_an_outdated_set(self):
        def turned():
            self.refresh()
            self.workshop.turn(ROLES[:1] + OTHER_ROLES[1:], 900)
            self.workshop.put("list", "new", "x")
            self.workshop.publish(100)

        # The charter is put, the shelf and the stamp removed, then the stamp, the shelf and the top list put.
        steps = [(1, 1, 1), (2, 1, 1), (2, 1, 0), (2, 0, 0), (2, 2, 0), (2, 2, 2), (2, 2, 2)]
        for count, kept, before in self.operations(turned, self.refresh):
            done = count + 1 if kept else count
            self.assertEqual(self.client.versions(), steps[done])
            self.assertIs(self.client.trusted().outdated(), done in [1, 2])
            self.assertEqual(self.disk.read("list.list"),
                             self.text("2.list.list") if done == 6 else before["list.list"])
            self.refresh()
            self.assert_idle(("ready", 2))
            self.assertEqual(self.client.versions(), (2, 2, 2))
            self.assert_kept()
        self.assertEqual(self.counted, 6)

    def test_a_refresh_with_a_new_snapshot(self):
        def published():
            self.refresh()
            self.workshop.put("list", "new", "x")
            self.workshop.publish(100)

        steps = [(1, 1, 1), (1, 2, 1), (1, 2, 2), (1, 2, 2)]
        for count, kept, _ in self.operations(published, self.refresh):
            self.assertEqual(self.client.versions(), steps[count + 1 if kept else count])
            # What was accepted before the crash is the least that is accepted behind it.
            self.until("stamp")
            self.client.give(self.workshop.stamps()[0])
            told = "version" if self.client.versions()[1] == 2 else None
            self.assertEqual(self.client.status()[1] if told else None, told)
            self.refresh()
            self.assert_idle(("ready", 2))
            self.assert_kept()
        self.assertEqual(self.counted, 3)

    def test_an_installation(self):
        def install():
            self.search(self.client.install, "a/deep")

        for count, kept, before in self.operations(self.refresh, install):
            done = count + 1 if kept else count
            told = dict(before)
            for name, text in [("list.a", self.text("1.a.list")), ("list.c", self.text("1.c.list")),
                               ("file.a/deep", "")][:done]:
                told[name] = text
            self.assertEqual(stored(self.disk), told)
            self.refresh()
            asked = self.search(self.client.install, "a/deep")
            self.assertEqual(asked, ["1.a.list", "1.c.list", file_name("a/deep", digest(""))][min(done, 2):])
            self.assertEqual(self.client.status()[0], "found")
            self.assertEqual(self.disk.read("file.a/deep"), "")
        self.assertEqual(self.counted, 3)

    def test_a_replaced_file_is_old_or_new(self):
        def renewed():
            self.refresh()
            self.search(self.client.install, "a/x")
            self.workshop.put("a", "a/x", "new")
            self.workshop.publish(100)
            self.refresh()

        def install():
            self.search(self.client.install, "a/x")

        for count, kept, _ in self.operations(renewed, install):
            self.assertEqual(self.disk.read("file.a/x"), "new" if count == 1 and kept else FILES["a/x"])
        self.assertEqual(self.counted, 2)

    def test_a_crashed_disk_is_told_by_each_call_that_needs_it(self):
        self.refresh()
        self.workshop.renew(100)
        self.disk.arm(0, False)
        self.until("stamp")
        with self.assertRaises(DiskCrashed):
            self.client.give(self.text("stamp"))
        with self.assertRaises(DiskCrashed):
            self.new_client()
        self.setUp()
        self.refresh()
        self.disk.arm(0, False)
        with self.assertRaises(DiskCrashed):
            self.disk.put("a", "b")
        with self.assertRaises(DiskCrashed):
            self.client.look("a/x")


if __name__ == "__main__":
    unittest.main()

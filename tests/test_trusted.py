"""Points 400 to 410: the trusted set, its reasons in their order, and expiry."""

import itertools
import unittest

from kit import (
    LATE, NO_STRINGS, OTHER_ROLES, ROLES, answers, charter, entry, foreign_texts, good, grant, listing, of, padded,
    role,
    shelf, signed, signed_by, stamp, swapped, unsealed,
)

from sealchart.documents import write
from sealchart.envelope import opened, seal, support
from sealchart.errors import Refused
from sealchart.seals import Seals
from sealchart.texts import encode
from sealchart.trusted import Trusted, has_expired, role_of

BASE = role(1, "k50", "k51")
CHARTER, STAMP, SHELF, LIST = ROLES


class Case(unittest.TestCase):
    """A set with the first charter; two lists, shelves of them and stamps are published as a test needs them."""

    def setUp(self):
        self.office = Seals()
        self.first = signed(self.office, charter(), CHARTER)
        self.trusted = Trusted(self.office, self.first)

    def sealed_list(self, name="list", version=1, **more):
        return signed(self.office, listing(name, version, **more), LIST if name == "list" else BASE)

    def sealed_shelf(self, version, lists, **more):
        """A sealed shelf of a dict from names to tuples (version, sealed text)."""
        rows = {name: entry(sealed, number) for name, (number, sealed) in lists.items()}
        return signed(self.office, shelf(version, rows, **more), SHELF)

    def sealed_stamp(self, version, sealed, shelf_version, **more):
        return signed(self.office, stamp(version, sealed, shelf_version, **more), STAMP)

    def fill(self):
        """Accept stamp 3, shelf 5 of the lists list (2) and a (4), and both lists."""
        self.lists = {"list": (2, self.sealed_list("list", 2)), "a": (4, self.sealed_list("a", 4))}
        self.shelf = self.sealed_shelf(5, self.lists)
        self.stamp = self.sealed_stamp(3, self.shelf, 5)
        self.trusted.accept_stamp(self.stamp)
        self.trusted.accept_shelf(self.shelf)
        self.trusted.accept_list("list", self.lists["list"][1], LIST)
        self.trusted.accept_list("a", self.lists["a"][1], BASE)

    def turn(self, *roles):
        """Accept the next charter with these roles in place of those of the last one, from the front."""
        before = self.trusted.charter()
        roles = roles + before[3][len(roles):]
        after = charter(before[1] + 1, roles=roles)
        self.trusted.accept_charter(signed(self.office, after, of(before, "charter"), of(after, "charter")))
        return after

    def refused(self, reason, call, *some, trusted=None):
        """The call is refused with this reason, and nothing changes."""
        trusted = trusted if trusted is not None else self.trusted
        before = answers(trusted)
        with self.assertRaises(Refused) as caught:
            call(*some)
        self.assertEqual(caught.exception.reason, reason)
        self.assertEqual(answers(trusted), before)


class FirstCharter(Case):
    def test_a_new_set(self):
        trusted = self.trusted
        self.assertEqual(trusted.charter(), charter())
        self.assertEqual(trusted.sealed("charter"), self.first)
        for answer in [trusted.stamp(), trusted.shelf(), trusted.list_of("list"), trusted.list_role("list"),
                       trusted.sealed("stamp"), trusted.sealed("shelf"), trusted.roles()]:
            self.assertIsNone(answer)
        self.assertIs(trusted.outdated(), False)
        self.assertIs(trusted.is_current(), False)

    def test_any_version_is_a_first_one(self):
        for version in [1, 2, 7, LATE]:
            sealed = signed(self.office, charter(version), CHARTER)
            self.assertEqual(Trusted(self.office, sealed).charter(), charter(version))

    def test_its_own_role(self):
        for some, told in [(("k10", "k11"), True), (("k10", "k11", "k12"), True), (("k11", "k12", "k40"), True),
                           (("k10",), False), ((), False), (("k10", "k20"), False), (("k20", "k21", "k30"), False),
                           (("k10", "k100", "k1"), False)]:
            sealed = signed_by(self.office, charter(expires=7), *some)
            with self.subTest(some):
                if told:
                    self.assertEqual(Trusted(self.office, sealed).charter(), charter(expires=7))
                else:
                    self.creation_refused("seals", sealed)

    def test_the_threshold(self):
        for threshold, many in itertools.product([1, 2, 3], [0, 1, 2, 3]):
            document = charter(2, roles=(role(threshold, "k1", "k2", "k3"),) + ROLES[1:])
            sealed = signed_by(self.office, document, *("k1", "k2", "k3")[:many])
            with self.subTest((threshold, many)):
                if many >= threshold:
                    self.assertEqual(Trusted(self.office, sealed).charter(), document)
                else:
                    self.creation_refused("seals", sealed)

    def test_seals_that_the_office_does_not_hold(self):
        sealed = signed(Seals(), charter(), CHARTER)
        self.creation_refused("seals", sealed, Seals())
        text, _ = opened(sealed)
        marks = encode((text, tuple((key, "0" * 18) for key in CHARTER[1])))
        self.creation_refused("seals", marks, self.office)

    def test_the_form(self):
        for value in NO_STRINGS + foreign_texts(self.office, "charter"):
            self.creation_refused("form", value)

    def test_the_form_comes_before_the_seals(self):
        self.creation_refused("form", unsealed(("charter", 0, 5, ROLES)))
        self.creation_refused("form", unsealed(charter(roles=ROLES[:3])))
        self.creation_refused("seals", unsealed(charter()))

    def creation_refused(self, reason, sealed, office=None):
        with self.assertRaises(Refused) as caught:
            Trusted(office if office is not None else self.office, sealed)
        self.assertEqual(caught.exception.reason, reason)


class Charters(Case):
    def test_the_next_charter(self):
        for version in [2, 3, 4]:
            document = charter(version, expires=version)
            sealed = signed(self.office, document, CHARTER)
            self.assertEqual(self.trusted.accept_charter(sealed), document)
            self.assertEqual(self.trusted.charter(), document)
            self.assertEqual(self.trusted.sealed("charter"), sealed)

    def test_the_form(self):
        for value in NO_STRINGS + foreign_texts(self.office, "charter"):
            self.refused("form", self.trusted.accept_charter, value)

    def test_the_version(self):
        self.turn()
        for version in [1, 2, 4, 5, LATE]:
            sealed = signed(self.office, charter(version), CHARTER)
            self.refused("version", self.trusted.accept_charter, sealed)
        self.trusted.accept_charter(signed(self.office, charter(3), CHARTER))

    def test_the_trusted_charter_again(self):
        self.refused("version", self.trusted.accept_charter, self.first)

    def test_both_roles_must_sign(self):
        before, after = ROLES[0], OTHER_ROLES[0]
        document = charter(2, roles=OTHER_ROLES)
        for some, told in [
            (("k10", "k11", "k15", "k16"), True), (before[1] + after[1], True), (("k10", "k12", "k16", "k17"), True),
            (("k10", "k11", "k15"), False), (("k10", "k15", "k16"), False), (("k10", "k11"), False),
            (("k15", "k16"), False), ((), False), (before[1], False), (after[1], False),
            (("k20", "k30", "k40", "k25"), False),
        ]:
            self.setUp()
            sealed = signed_by(self.office, document, *some)
            with self.subTest(some):
                if told:
                    self.assertEqual(self.trusted.accept_charter(sealed), document)
                else:
                    self.refused("seals", self.trusted.accept_charter, sealed)

    def test_keys_that_both_roles_have(self):
        document = charter(2, roles=(role(2, "k10", "k11", "k19"),) + ROLES[1:])
        self.refused("seals", self.trusted.accept_charter, signed_by(self.office, document, "k10", "k19"))
        self.refused("seals", self.trusted.accept_charter, signed_by(self.office, document, "k10", "k12"))
        self.trusted.accept_charter(signed_by(self.office, document, "k10", "k11"))

    def test_the_new_roles_hold_for_the_charter_behind(self):
        self.turn(OTHER_ROLES[0])
        third = charter(3, roles=OTHER_ROLES)
        self.refused("seals", self.trusted.accept_charter, signed(self.office, third, CHARTER))
        self.trusted.accept_charter(signed(self.office, third, OTHER_ROLES[0]))

    def test_the_order(self):
        self.refused("form", self.trusted.accept_charter, unsealed(("charter", 5, 5, ROLES[:3])))
        self.refused("version", self.trusted.accept_charter, unsealed(charter(3)))
        self.refused("seals", self.trusted.accept_charter, unsealed(charter(2)))

    def test_an_expired_charter_is_accepted(self):
        sealed = signed(self.office, charter(2, expires=0), CHARTER)
        self.assertEqual(self.trusted.accept_charter(sealed)[2], 0)

    def test_the_rest_stays(self):
        self.fill()
        before = answers(self.trusted)
        self.turn()
        after = answers(self.trusted)
        self.assertEqual(after[1:6], before[1:6])
        self.assertEqual(after[6][1:], before[6][1:])
        self.assertEqual(after[7], before[7])

    def test_an_outdated_set_accepts_charters(self):
        self.fill()
        before = answers(self.trusted)
        self.turn(CHARTER, OTHER_ROLES[1])
        self.assertIs(self.trusted.outdated(), True)
        after = answers(self.trusted)
        self.assertEqual((after[1:3], after[4:6], after[7]), (before[1:3], before[4:6], before[7]))
        self.turn(CHARTER, OTHER_ROLES[1])
        self.assertEqual(self.trusted.charter()[1], 3)


class Outdated(Case):
    def test_each_role(self):
        for at, told in [(0, False), (1, True), (2, True), (3, False)]:
            self.setUp()
            self.fill()
            self.turn(*(ROLES[:at] + OTHER_ROLES[at:at + 1] + ROLES[at + 1:]))
            with self.subTest(at):
                self.assertIs(self.trusted.outdated(), told)
                self.assertEqual(self.trusted.roles(), (STAMP, SHELF))

    def test_another_threshold_and_other_keys(self):
        for at in [1, 2]:
            threshold, some = ROLES[at]
            for other in [(threshold % 2 + 1, some), (1, some[:1]), (threshold, some + ("k99",)), OTHER_ROLES[at]]:
                self.setUp()
                self.fill()
                self.turn(*(ROLES[:at] + (other,)))
                with self.subTest((at, other)):
                    self.assertIs(self.trusted.outdated(), other != ROLES[at])

    def test_without_a_stamp(self):
        self.turn(*OTHER_ROLES)
        self.assertIs(self.trusted.outdated(), False)

    def test_with_a_stamp_alone(self):
        self.trusted.accept_stamp(self.sealed_stamp(1, "text", 1))
        self.assertIs(self.trusted.outdated(), False)
        self.turn(CHARTER, STAMP, OTHER_ROLES[2])
        self.assertIs(self.trusted.outdated(), True)

    def test_roles_that_come_back(self):
        self.fill()
        self.turn(CHARTER, OTHER_ROLES[1])
        self.assertIs(self.trusted.outdated(), True)
        self.turn(*ROLES)
        self.assertIs(self.trusted.outdated(), False)
        self.trusted.accept_stamp(self.sealed_stamp(4, self.shelf, 5))

    def test_everything_is_refused(self):
        self.fill()
        self.turn(CHARTER, OTHER_ROLES[1])
        trusted = self.trusted
        for sealed in [self.stamp, self.shelf, self.lists["a"][1], "", "a", unsealed(("stamp", 0)),
                       signed(self.office, stamp(9, self.shelf, 5), STAMP, OTHER_ROLES[1])]:
            self.refused("role", trusted.accept_stamp, sealed)
            self.refused("role", trusted.accept_shelf, sealed)
            for name in ["list", "a", "b"]:
                self.refused("role", trusted.accept_list, name, sealed, BASE)

    def test_no_string_comes_before_it(self):
        for turned in [False, True]:
            if turned:
                self.fill()
                self.turn(CHARTER, OTHER_ROLES[1])
            for value in NO_STRINGS:
                self.refused("form", self.trusted.accept_stamp, value)
                self.refused("form", self.trusted.accept_shelf, value)
                self.refused("form", self.trusted.accept_list, "a", value, BASE)
                self.refused("form", self.trusted.accept_charter, value)

    def test_forget(self):
        for turned in [False, True]:
            self.setUp()
            self.fill()
            if turned:
                self.turn(CHARTER, OTHER_ROLES[1])
            told = self.trusted.charter(), self.trusted.sealed("charter")
            self.assertIsNone(self.trusted.forget())
            trusted = self.trusted
            self.assertEqual((trusted.charter(), trusted.sealed("charter")), told)
            self.assertEqual(answers(trusted)[1:6], (None, None, False, False, None))
            self.assertEqual(answers(trusted)[6][1:], (None, None))
            for name in ["list", "a"]:
                self.assertIsNone(trusted.list_of(name))
                self.assertIsNone(trusted.list_role(name))

    def test_a_set_that_forgot_goes_on_from_anywhere(self):
        self.fill()
        self.turn(CHARTER, OTHER_ROLES[1], OTHER_ROLES[2])
        self.trusted.forget()
        rows = {"list": entry("a", 1)}
        sealed = signed(self.office, shelf(1, rows), OTHER_ROLES[2])
        self.trusted.accept_stamp(signed(self.office, stamp(1, sealed, 1), OTHER_ROLES[1]))
        self.assertEqual(self.trusted.roles(), OTHER_ROLES[1:3])
        self.assertIs(self.trusted.outdated(), False)
        self.assertEqual(self.trusted.accept_shelf(sealed), shelf(1, rows))

    def test_forgetting_nothing(self):
        before = answers(self.trusted)
        self.assertIsNone(self.trusted.forget())
        self.assertEqual(answers(self.trusted), before)


class Stamps(Case):
    def test_a_first_stamp(self):
        for version, shelf_version in [(1, 1), (7, 3), (LATE, LATE)]:
            self.setUp()
            sealed = self.sealed_stamp(version, "text", shelf_version)
            document = stamp(version, "text", shelf_version)
            self.assertEqual(self.trusted.accept_stamp(sealed), document)
            self.assertEqual(self.trusted.stamp(), document)
            self.assertEqual(self.trusted.sealed("stamp"), sealed)
            self.assertEqual(self.trusted.roles(), (STAMP, SHELF))

    def test_the_form(self):
        for filled in [False, True]:
            if filled:
                self.fill()
            for text in foreign_texts(self.office, "stamp"):
                self.refused("form", self.trusted.accept_stamp, text)

    def test_the_seals(self):
        document = stamp(1, "text", 1)
        for some in [(), ("k10", "k11", "k12"), ("k30", "k31"), ("k40",), ("k2", "k200")]:
            self.refused("seals", self.trusted.accept_stamp, signed_by(self.office, document, *some))
        self.refused("seals", self.trusted.accept_stamp, signed(Seals(), stamp(1, "other", 1), STAMP))
        for some in [("k20",), ("k21",), ("k20", "k21"), ("k10", "k21")]:
            self.trusted.accept_stamp(signed_by(self.office, document, *some))

    def test_the_role_of_the_newest_charter_signs(self):
        self.turn(CHARTER, OTHER_ROLES[1])
        document = stamp(1, "text", 1)
        self.refused("seals", self.trusted.accept_stamp, signed(self.office, document, STAMP))
        self.refused("seals", self.trusted.accept_stamp, signed_by(self.office, document, "k25"))
        self.trusted.accept_stamp(signed_by(self.office, document, "k25", "k26"))
        self.assertEqual(self.trusted.roles(), (OTHER_ROLES[1], SHELF))

    def test_versions(self):
        self.trusted.accept_stamp(self.sealed_stamp(5, "text", 5))
        for version, shelf_version, told in [
            (5, 5, True), (6, 5, True), (6, 6, True), (9, 20, True),
            (4, 5, False), (4, 6, False), (1, 1, False), (6, 4, False), (9, 1, False), (5, 6, False), (5, 4, False),
        ]:
            self.trusted.forget()
            self.trusted.accept_stamp(self.sealed_stamp(5, "text", 5))
            sealed = self.sealed_stamp(version, "text", shelf_version)
            with self.subTest((version, shelf_version)):
                if told:
                    self.assertEqual(self.trusted.accept_stamp(sealed), stamp(version, "text", shelf_version))
                    self.assertEqual(self.trusted.sealed("stamp"), sealed)
                else:
                    self.refused("version", self.trusted.accept_stamp, sealed)

    def test_the_same_version_with_another_document(self):
        self.trusted.accept_stamp(self.sealed_stamp(5, "text", 5))
        for sealed in [self.sealed_stamp(5, "text", 5, expires=999), self.sealed_stamp(5, "text", 5, expires=1001),
                       self.sealed_stamp(5, "texu", 5), self.sealed_stamp(5, "texts", 5),
                       self.sealed_stamp(5, "text", 6)]:
            self.refused("version", self.trusted.accept_stamp, sealed)

    def test_the_same_document_with_other_seals(self):
        document = stamp(5, "text", 5)
        for some in [("k20", "k21"), ("k20",), ("k21",), ("k21", "k99"), ("k20", "k21")]:
            sealed = signed_by(self.office, document, *some)
            self.assertEqual(self.trusted.accept_stamp(sealed), document)
            self.assertEqual(self.trusted.sealed("stamp"), sealed)

    def test_the_same_version_of_the_shelf_with_another_text(self):
        self.trusted.accept_stamp(self.sealed_stamp(5, "text", 5))
        self.assertEqual(self.trusted.accept_stamp(self.sealed_stamp(6, "other", 5)), stamp(6, "other", 5))

    def test_the_order(self):
        self.fill()
        accept = self.trusted.accept_stamp
        self.refused("form", accept, unsealed(("stamp", 1, 5, (1, 1))))
        self.refused("seals", accept, unsealed(stamp(1, "a", 1)))
        self.refused("seals", accept, unsealed(stamp(3, "a", 5)))
        self.refused("seals", accept, unsealed(stamp(9, "a", 1)))
        self.refused("version", accept, self.sealed_stamp(1, "a", 1))

    def test_an_expired_stamp_is_accepted(self):
        self.trusted.accept_stamp(self.sealed_stamp(5, "text", 5, expires=0))
        self.refused("version", self.trusted.accept_stamp, self.sealed_stamp(4, "text", 5))

    def test_the_shelf_and_the_lists_stay(self):
        self.fill()
        before = answers(self.trusted)
        self.trusted.accept_stamp(self.sealed_stamp(4, "text", 6))
        after = answers(self.trusted)
        self.assertEqual((after[0], after[2:4], after[5]), (before[0], before[2:4], before[5]))
        self.assertEqual((after[6][0], after[6][2], after[7]), (before[6][0], before[6][2], before[7]))
        self.assertIs(self.trusted.is_current(), False)


class Shelves(Case):
    def follow(self, lists, version=6):
        """Accept a stamp for a shelf behind the one of `fill`, and return the sealed shelf."""
        sealed = self.sealed_shelf(version, lists)
        self.trusted.accept_stamp(self.sealed_stamp(version + 10, sealed, version))
        return sealed

    def name(self, sealed, version=1):
        """Accept a stamp that names this text."""
        number = self.trusted.stamp()[1] + 1 if self.trusted.stamp() is not None else 1
        self.trusted.accept_stamp(self.sealed_stamp(number, sealed, version))

    def test_a_first_shelf(self):
        lists = {"list": (3, "text"), "b": (9, "other")}
        sealed = self.sealed_shelf(7, lists)
        self.trusted.accept_stamp(self.sealed_stamp(1, sealed, 7))
        self.assertIs(self.trusted.is_current(), False)
        document = shelf(7, {"list": entry("text", 3), "b": entry("other", 9)})
        self.assertEqual(self.trusted.accept_shelf(sealed), document)
        self.assertEqual(self.trusted.shelf(), document)
        self.assertEqual(self.trusted.sealed("shelf"), sealed)
        self.assertIs(self.trusted.is_current(), True)

    def test_without_a_stamp(self):
        for text in ["", "a", self.sealed_shelf(1, {"list": (1, "a")}), unsealed(("shelf",))]:
            self.refused("missing", self.trusted.accept_shelf, text)

    def test_the_length_and_the_digest(self):
        sealed = self.sealed_shelf(1, {"list": (1, "a")})
        self.name(sealed)
        accept = self.trusted.accept_shelf
        for text in ["", "a", sealed[:-1], sealed + " ", sealed * 2, self.sealed_shelf(10, {"list": (1, "a")})]:
            self.refused("length", accept, text)
        for text in [" " * len(sealed), swapped(sealed), self.sealed_shelf(2, {"list": (1, "a")}),
                     self.sealed_shelf(1, {"list": (1, "b")})]:
            self.refused("digest", accept, text)
        accept(sealed)

    def test_other_seals_of_the_same_document(self):
        document = shelf(1, {"list": entry("a", 1)})
        self.name(signed(self.office, document, SHELF))
        self.refused("length", self.trusted.accept_shelf, signed_by(self.office, document, "k30", "k31"))
        self.refused("digest", self.trusted.accept_shelf, signed_by(self.office, document, "k30", "k31", "k33"))

    def test_the_form(self):
        for text in foreign_texts(self.office, "shelf"):
            self.name(text)
            self.refused("form", self.trusted.accept_shelf, text)

    def test_the_seals(self):
        document = shelf(1, {"list": entry("a", 1)})
        for some in [(), ("k30",), ("k30", "k20"), ("k10", "k11", "k12"), ("k20", "k21"), ("k40", "k41")]:
            sealed = signed_by(self.office, document, *some)
            self.name(sealed)
            self.refused("seals", self.trusted.accept_shelf, sealed)
        for some in [("k30", "k31"), ("k31", "k32", "k10")]:
            sealed = signed_by(self.office, document, *some)
            self.name(sealed)
            self.assertEqual(self.trusted.accept_shelf(sealed), document)

    def test_the_role_of_the_newest_charter_signs(self):
        self.turn(CHARTER, STAMP, OTHER_ROLES[2])
        document = shelf(1, {"list": entry("a", 1)})
        sealed = signed(self.office, document, SHELF)
        self.name(sealed)
        self.refused("seals", self.trusted.accept_shelf, sealed)
        sealed = signed(self.office, document, OTHER_ROLES[2])
        self.name(sealed)
        self.trusted.accept_shelf(sealed)

    def test_the_version_is_the_one_of_the_stamp(self):
        for version, told in [(1, 2), (2, 1), (5, 50)]:
            self.setUp()
            sealed = self.sealed_shelf(version, {"list": (1, "a")})
            self.name(sealed, told)
            self.refused("version", self.trusted.accept_shelf, sealed)
            self.trusted.forget()
            self.name(sealed, version)
            self.trusted.accept_shelf(sealed)

    def test_a_list_that_is_dropped(self):
        self.fill()
        for lists in [{"list": self.lists["list"]}, {"list": (9, "x"), "b": (9, "y")},
                      {"list": (9, "x"), "aa": (9, "y")}]:
            sealed = self.follow(lists)
            self.refused("version", self.trusted.accept_shelf, sealed)
            self.trusted.forget()
            self.fill()

    def test_a_list_with_a_lesser_version(self):
        for numbers, told in [((2, 4), True), ((3, 4), True), ((2, 5), True), ((99, 98), True), ((1, 4), False),
                              ((2, 3), False), ((1, 5), False), ((9, 1), False), ((1, 1), False)]:
            self.setUp()
            self.fill()
            sealed = self.follow({"list": (numbers[0], "x"), "a": (numbers[1], "y")})
            with self.subTest(numbers):
                if told:
                    self.assertEqual(self.trusted.accept_shelf(sealed)[1], 6)
                else:
                    self.refused("version", self.trusted.accept_shelf, sealed)

    def test_the_lists_of_the_trusted_shelf_count_and_not_the_kept_ones(self):
        self.fill()
        sealed = self.follow({"list": (2, "x"), "a": (9, "y"), "b": (7, "z")})
        self.trusted.accept_shelf(sealed)
        self.assertIsNone(self.trusted.list_of("a"))
        self.refused("version", self.trusted.accept_shelf, self.follow({"list": (2, "x"), "a": (9, "y"),
                                                                        "b": (6, "z")}, 7))
        self.trusted.forget()
        self.trusted.accept_stamp(self.sealed_stamp(1, self.shelf, 5))
        self.trusted.accept_shelf(self.shelf)

    def test_new_lists_may_come(self):
        self.fill()
        sealed = self.follow({"list": (2, "x"), "a": (4, "y"), "b": (1, "z"), "c": (7, "z")})
        self.assertEqual([row[0] for row in self.trusted.accept_shelf(sealed)[3]], ["a", "b", "c", "list"])

    def test_which_lists_stay(self):
        top, other = "list", "a"
        self.fill()
        same = dict(self.lists)
        text = same[other][1]
        for row, stays in [((4, text), True), ((5, text), False), ((4, text + " "), False), ((4, swapped(text)), False),
                           ((4, padded("a", len(text))), False), ((5, "a"), False)]:
            self.setUp()
            self.fill()
            sealed = self.follow({top: same[top], other: row, "b": (1, text)})
            self.trusted.accept_shelf(sealed)
            with self.subTest(row[0]):
                self.assertEqual(self.trusted.list_of(top), listing("list", 2))
                self.assertEqual(self.trusted.list_role(top), LIST)
                self.assertEqual(self.trusted.list_of(other), listing("a", 4) if stays else None)
                self.assertEqual(self.trusted.list_role(other), BASE if stays else None)
                self.assertIsNone(self.trusted.list_of("b"))

    def test_a_list_that_was_removed_does_not_come_back(self):
        self.fill()
        self.trusted.accept_shelf(self.follow({"list": self.lists["list"], "a": (5, "x")}))
        self.trusted.accept_shelf(self.follow({"list": self.lists["list"], "a": (5, self.lists["a"][1])}, 7))
        self.assertIsNone(self.trusted.list_of("a"))

    def test_the_order(self):
        self.fill()
        bad_form = unsealed(("shelf", 1, 5, ()))
        unsigned = unsealed(shelf(9, {"list": entry("a", 1)}))
        older = self.sealed_shelf(9, {"list": (1, "a")})
        accept = self.trusted.accept_shelf
        for text in [bad_form, unsigned, older]:
            self.refused("length", accept, text)
        for text, reason in [(bad_form, "form"), (unsigned, "seals"), (older, "version")]:
            self.name(text, 5 + len(reason))
            self.refused("digest", accept, swapped(text))
            self.refused(reason, accept, text)

    def test_an_expired_shelf_is_accepted(self):
        sealed = self.sealed_shelf(1, {"list": (1, "a")}, expires=0)
        self.name(sealed)
        self.assertEqual(self.trusted.accept_shelf(sealed)[2], 0)

    def test_the_shelf_again(self):
        self.fill()
        before = answers(self.trusted)
        self.assertEqual(self.trusted.accept_shelf(self.shelf), self.trusted.shelf())
        self.assertEqual(answers(self.trusted), before)


class Current(Case):
    def test_the_stamp_names_the_version_the_length_and_the_digest(self):
        self.fill()
        self.assertIs(self.trusted.is_current(), True)
        for sealed, version, told in [
            (self.shelf, 5, True), (self.shelf, 6, False), (self.shelf + " ", 5, False),
            (swapped(self.shelf), 5, False),
        ]:
            self.setUp()
            self.fill()
            self.trusted.accept_stamp(self.sealed_stamp(4, sealed, version))
            with self.subTest(version):
                self.assertIs(self.trusted.is_current(), told)

    def test_with_other_seals_of_the_shelf(self):
        self.fill()
        document = self.trusted.shelf()
        other = signed_by(self.office, document, "k30", "k31", "k99")
        self.trusted.accept_stamp(self.sealed_stamp(4, other, 5))
        self.assertIs(self.trusted.is_current(), False)
        self.assertEqual(self.trusted.accept_shelf(other), document)
        self.assertIs(self.trusted.is_current(), True)


class Lists(Case):
    def setUp(self):
        Case.setUp(self)
        self.texts = {name: self.sealed_list(name, 4) for name in ["list", "a", "b"]}

    def show(self, texts, version=4):
        """Accept a stamp and a shelf that names these texts, all with one version."""
        number = self.trusted.stamp()[1] + 1 if self.trusted.stamp() is not None else 1
        sealed = self.sealed_shelf(number, {name: (version, text) for name, text in texts.items()})
        self.trusted.accept_stamp(self.sealed_stamp(number, sealed, number))
        self.trusted.accept_shelf(sealed)

    def test_lists(self):
        self.show(self.texts)
        for name, text in self.texts.items():
            by = LIST if name == "list" else BASE
            self.assertEqual(self.trusted.accept_list(name, text, by), listing(name, 4))
            self.assertEqual(self.trusted.list_of(name), listing(name, 4))
            self.assertEqual(self.trusted.list_role(name), by)
        for name in ["c", "", "lists"]:
            self.assertIsNone(self.trusted.list_of(name))
            self.assertIsNone(self.trusted.list_role(name))

    def test_without_a_current_shelf(self):
        for name in ["list", "a", "zz"]:
            self.refused("missing", self.trusted.accept_list, name, self.texts["a"], BASE)
        self.trusted.accept_stamp(self.sealed_stamp(1, "text", 1))
        for name in ["list", "a", "zz"]:
            self.refused("missing", self.trusted.accept_list, name, self.texts["a"], BASE)
        self.show(self.texts)
        self.trusted.accept_stamp(self.sealed_stamp(9, "text", 9))
        for name in ["list", "a", "zz"]:
            self.refused("missing", self.trusted.accept_list, name, self.texts["a"], BASE)

    def test_a_list_that_the_shelf_does_not_name(self):
        self.show(self.texts)
        for name in ["c", "lists", "", "shelf"]:
            for text in ["", self.texts["a"], self.sealed_list("c")]:
                self.refused("role", self.trusted.accept_list, name, text, BASE)

    def test_the_length_and_the_digest(self):
        self.show(self.texts)
        for name, text in self.texts.items():
            by = LIST if name == "list" else BASE
            for wrong in ["", "a", text[:-1], text + " ", self.sealed_list(name, 40)]:
                self.refused("length", self.trusted.accept_list, name, wrong, by)
            for wrong in [" " * len(text), swapped(text), self.sealed_list(name, 3), self.sealed_list(name, 5)]:
                self.refused("digest", self.trusted.accept_list, name, wrong, by)
        self.refused("digest", self.trusted.accept_list, "a", self.texts["b"], BASE)

    def test_the_form(self):
        for text in foreign_texts(self.office, "list"):
            self.trusted.forget()
            self.show({"list": text, "a": text})
            self.refused("form", self.trusted.accept_list, "list", text, LIST)
            self.refused("form", self.trusted.accept_list, "a", text, BASE)

    def test_a_list_with_another_name(self):
        for name, other in itertools.permutations(["list", "a", "b"], 2):
            self.trusted.forget()
            text = signed(self.office, listing(other, 4), LIST, BASE)
            self.show({"list": text, "a": text, "b": text})
            self.refused("form", self.trusted.accept_list, name, text, BASE)
            self.trusted.accept_list(other, text, BASE)

    def test_the_seals(self):
        by = role(2, "k50", "k51", "k52")
        for some, told in [((), False), (("k50",), False), (("k50", "k40"), False), (("k40", "k41"), False),
                           (("k50", "k52"), True), (("k50", "k51", "k52"), True), (("k10", "k51", "k52"), True)]:
            self.trusted.forget()
            text = signed_by(self.office, listing("a", 4), *some)
            self.show({"list": "x", "a": text})
            with self.subTest(some):
                if told:
                    self.assertEqual(self.trusted.accept_list("a", text, by), listing("a", 4))
                else:
                    self.refused("seals", self.trusted.accept_list, "a", text, by)

    def test_the_role_is_the_one_that_is_given(self):
        self.show(self.texts)
        self.refused("seals", self.trusted.accept_list, "a", self.texts["a"], LIST)
        self.refused("seals", self.trusted.accept_list, "list", self.texts["list"], BASE)
        self.refused("seals", self.trusted.accept_list, "a", self.texts["a"], role(2, "k50", "k53"))
        for by in [role(1, "k50"), role(2, "k50", "k51"), role(1, "k50", "k99"), BASE]:
            self.trusted.accept_list("a", self.texts["a"], by)
            self.assertEqual(self.trusted.list_role("a"), by)

    def test_a_refusal_leaves_the_role_under_which_a_list_is_kept(self):
        self.show(self.texts)
        self.trusted.accept_list("a", self.texts["a"], BASE)
        self.refused("seals", self.trusted.accept_list, "a", self.texts["a"], LIST)
        self.assertEqual(self.trusted.list_role("a"), BASE)

    def test_the_version(self):
        for version in [1, 3, 5, LATE]:
            self.trusted.forget()
            text = self.sealed_list("a", version)
            self.show({"list": "x", "a": text})
            self.refused("version", self.trusted.accept_list, "a", text, BASE)
            self.trusted.forget()
            self.show({"list": "x", "a": text}, version)
            self.trusted.accept_list("a", text, BASE)

    def test_the_order(self):
        bad_form = unsealed(("list", "a", 1))
        other_name = unsealed(listing("b", 9))
        unsigned = unsealed(listing("a", 9))
        older = self.sealed_list("a", 9)
        accept = self.trusted.accept_list
        for text, reason in [(bad_form, "form"), (other_name, "form"), (unsigned, "seals"), (older, "version")]:
            self.trusted.forget()
            for name in ["a", "zz"]:
                self.refused("missing", accept, name, text + " ", BASE)
            self.show({"list": "x", "a": text})
            self.refused("role", accept, "zz", text + " ", BASE)
            self.refused("length", accept, "a", swapped(text) + " ", BASE)
            self.refused("digest", accept, "a", swapped(text), BASE)
            self.refused(reason, accept, "a", text, BASE)

    def test_an_expired_list_is_accepted(self):
        text = self.sealed_list("a", 4, expires=0)
        self.show({"list": "x", "a": text})
        self.assertEqual(self.trusted.accept_list("a", text, BASE)[3], 0)

    def test_goods_and_grants_are_kept(self):
        document = listing("a", 4, goods=[good("p"), good("q", "other")], grants=[grant("b"), grant("c", last=1)])
        text = signed(self.office, document, BASE)
        self.show({"list": "x", "a": text})
        self.trusted.accept_list("a", text, BASE)
        self.assertEqual(self.trusted.list_of("a"), document)


class Restored(Case):
    def again(self):
        """A set with the stamp and the shelf of `fill`, taken back."""
        self.fill()
        trusted = Trusted(self.office, self.first)
        self.assertEqual(trusted.restore_stamp(self.stamp, (STAMP, SHELF)), self.trusted.stamp())
        self.assertEqual(trusted.restore_shelf(self.shelf), self.trusted.shelf())
        return trusted

    def test_a_set_is_what_it_was(self):
        trusted = self.again()
        self.assertEqual(answers(trusted)[:7], answers(self.trusted)[:7])
        self.assertIsNone(trusted.list_of("list"))
        self.assertIs(trusted.is_current(), True)

    def test_a_set_goes_on(self):
        trusted = self.again()
        self.assertEqual(trusted.accept_list("a", self.lists["a"][1], BASE), listing("a", 4))
        self.refused("version", trusted.accept_stamp, self.sealed_stamp(2, self.shelf, 5), trusted=trusted)
        self.refused("version", trusted.accept_stamp, self.sealed_stamp(4, self.shelf, 4), trusted=trusted)
        sealed = self.sealed_shelf(6, {"list": (2, "x"), "a": (3, "y")})
        trusted.accept_stamp(self.sealed_stamp(4, sealed, 6))
        self.refused("version", trusted.accept_shelf, sealed, trusted=trusted)
        sealed = self.sealed_shelf(6, {"list": (2, "x"), "a": self.lists["a"]})
        trusted.accept_stamp(self.sealed_stamp(5, sealed, 6))
        trusted.accept_shelf(sealed)
        self.assertEqual(trusted.list_of("a"), listing("a", 4))

    def test_a_stamp_of_other_roles(self):
        for roles, told in [((STAMP, SHELF), False), ((SHELF, STAMP), True), ((STAMP, LIST), True),
                            ((OTHER_ROLES[1], SHELF), True), ((STAMP, OTHER_ROLES[2]), True)]:
            trusted = Trusted(self.office, self.first)
            trusted.restore_stamp(self.sealed_stamp(3, "text", 5), roles)
            with self.subTest(roles):
                self.assertEqual(trusted.roles(), roles)
                self.assertIs(trusted.outdated(), told)

    def test_nothing_but_the_form_is_asked_of_a_stamp(self):
        document = stamp(7, "text", 5, expires=0)
        for sealed in [unsealed(document), signed_by(self.office, document, "k99")]:
            trusted = Trusted(self.office, self.first)
            self.assertEqual(trusted.restore_stamp(sealed, OTHER_ROLES[1:3]), document)
            self.assertEqual((trusted.stamp(), trusted.sealed("stamp")), (document, sealed))
            self.assertIs(trusted.outdated(), True)

    def test_nothing_but_the_form_is_asked_of_a_shelf(self):
        document = shelf(2, {"list": entry("a", 1)}, expires=0)
        for roles in [(STAMP, SHELF), OTHER_ROLES[1:3]]:
            for sealed in [unsealed(document), signed(self.office, document, SHELF)]:
                trusted = Trusted(self.office, self.first)
                trusted.restore_stamp(self.sealed_stamp(3, "text", 5), roles)
                self.assertEqual(trusted.restore_shelf(sealed), document)
                self.assertEqual((trusted.shelf(), trusted.sealed("shelf")), (document, sealed))
                self.assertIs(trusted.is_current(), False)

    def test_the_form(self):
        trusted = self.trusted
        for value in NO_STRINGS + foreign_texts(self.office, "stamp"):
            self.refused("form", trusted.restore_stamp, value, (STAMP, SHELF))
        trusted.restore_stamp(self.sealed_stamp(3, "text", 5), (STAMP, SHELF))
        for value in NO_STRINGS + foreign_texts(self.office, "shelf"):
            self.refused("form", trusted.restore_shelf, value)

    def test_a_shelf_without_a_stamp(self):
        for value in NO_STRINGS + ["", "a", self.sealed_shelf(1, {"list": (1, "a")})]:
            self.refused("missing", self.trusted.restore_shelf, value)

    def test_a_shelf_that_is_not_current_is_no_shelf_for_lists(self):
        self.fill()
        trusted = Trusted(self.office, self.first)
        trusted.restore_stamp(self.sealed_stamp(4, "text", 6), (STAMP, SHELF))
        trusted.restore_shelf(self.shelf)
        self.assertIs(trusted.is_current(), False)
        self.refused("missing", trusted.accept_list, "a", self.lists["a"][1], BASE, trusted=trusted)


class Functions(unittest.TestCase):
    def test_the_roles_of_a_charter(self):
        for at, name in enumerate(["charter", "stamp", "shelf", "list"]):
            self.assertEqual(role_of(charter(), name), ROLES[at])
            self.assertEqual(role_of(charter(2, roles=OTHER_ROLES), name), OTHER_ROLES[at])

    def test_expiry(self):
        for expires, time in itertools.product([0, 1, 2, 50, LATE - 1, LATE], repeat=2):
            for document in [charter(7, expires), stamp(7, "a", 9, expires), shelf(7, {"list": entry("a", 1)}, expires),
                             listing("a", 7, expires), listing("list", 7, expires)]:
                with self.subTest((document[0], expires, time)):
                    self.assertIs(has_expired(document, time), expires <= time)


class NothingIsShared(Case):
    def test_two_sets_share_nothing(self):
        other = Trusted(self.office, self.first)
        before = answers(other)
        self.fill()
        self.turn(*OTHER_ROLES)
        self.assertEqual(answers(other), before)

    def test_the_office_makes_no_seals(self):
        self.fill()
        many = self.office.count()
        self.trusted.accept_shelf(self.shelf)
        self.refused("version", self.trusted.accept_charter, self.first)
        self.assertEqual(self.office.count(), many)

    def test_signed_means_the_support_in_the_keys(self):
        text = write(stamp(1, "a", 1))
        for some in itertools.chain(*[itertools.combinations(("k20", "k21", "k30", "k99"), many) for many in range(5)]):
            self.setUp()
            sealed = seal(self.office, text, list(some))
            told = support(self.office, sealed, STAMP[1]) >= STAMP[0]
            if told:
                self.trusted.accept_stamp(sealed)
            else:
                self.refused("seals", self.trusted.accept_stamp, sealed)


if __name__ == "__main__":
    unittest.main()

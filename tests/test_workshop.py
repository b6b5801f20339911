"""Part 6 (points 600 to 606): the repository."""

import random
import unittest

from kit import (
    FOREIGN, LATE, NO_STRINGS, OTHER_ROLES, ROLES, charter, content, entry, good, grant, keys, listing, replaced,
    reshaped,
    role, signed,
)

from sealchart.digests import digest
from sealchart.documents import file_name, published_name
from sealchart.envelope import opened
from sealchart.errors import BadAct
from sealchart.limits import MOST_CHARTER, MOST_GOODS, MOST_LISTS, MOST_SEALS, MOST_STAMP, MOST_TEXT
from sealchart.seals import Seals
from sealchart.trusted import Trusted
from sealchart.workshop import Workshop

CHARTER, STAMP, SHELF, LIST = ROLES
# Two strings of one length with one digest.
ONE_DIGEST = ("PmXPPR\\PjgPP", "XPPUWPP\\PPj\\")
BAD_TIMES = [value for value in FOREIGN if value != chr(37)] + ["0", "5", (), (5,)]


def told(workshop):
    """Everything that a workshop tells."""
    shelves = [name for name in workshop.names() if name.endswith(".shelf")]
    return (
        {name: workshop.text(name) for name in workshop.names()}, workshop.first(), workshop.stamps(),
        [workshop.snapshot(version) for version in range(1, len(shelves) + 1)], workshop.charters(),
    )


def signers(sealed):
    return tuple(key for key, _ in opened(sealed)[1])


class Case(unittest.TestCase):
    def setUp(self):
        self.office = Seals()
        self.workshop = Workshop(self.office, ROLES, 500)

    def refused(self, reason, call, *some):
        """The call raises BadAct with the reason, and nothing that the workshop tells changes."""
        before = told(self.workshop), self.office.count()
        with self.assertRaises(BadAct) as caught:
            call(*some)
        self.assertEqual(caught.exception.reason, reason)
        self.assertEqual((told(self.workshop), self.office.count()), before)

    def newest(self):
        """The newest shelf and its lists."""
        return self.workshop.snapshot(content(self.workshop.text("stamp"))[3][0])

    def versions(self):
        return {name: document[2] for name, document in self.newest()[1].items()}


class Beginning(Case):
    def test_the_first_charter(self):
        workshop = self.workshop
        sealed = signed(Seals(), charter(1, 500), CHARTER)
        self.assertEqual(workshop.first(), sealed)
        self.assertEqual(workshop.names(), ["1.charter"])
        self.assertEqual(workshop.text("1.charter"), sealed)
        self.assertEqual(workshop.charters(), [charter(1, 500)])
        self.assertEqual(workshop.stamps(), [])
        self.assertEqual(signers(sealed), CHARTER[1])
        Trusted(self.office, sealed)

    def test_nothing_else_is_published(self):
        for name in ["stamp", "1.shelf", "1.list.list", "0.charter", "2.charter", "", "charter"]:
            self.assertIsNone(self.workshop.text(name))
        for version in [0, 1, 2]:
            self.refused("absent", self.workshop.snapshot, version)

    def test_the_limits_of_the_expiry_time(self):
        for expires in [0, 1, LATE]:
            self.assertEqual(Workshop(Seals(), ROLES, expires).charters(), [charter(1, expires)])
        for expires in BAD_TIMES:
            office = Seals()
            with self.assertRaises(BadAct) as caught:
                Workshop(office, ROLES, expires)
            self.assertEqual((caught.exception.reason, office.count()), ("expires", 0))

    def test_values_that_are_no_roles(self):
        bad = FOREIGN + NO_STRINGS + [(), ROLES[:3], ROLES + ROLES[:1], list(ROLES), CHARTER, "abcd", (ROLES,)]
        bad += [value for worth in FOREIGN for value in replaced(ROLES, worth)] + list(reshaped(ROLES))
        for roles in bad:
            for expires in [5, -1, None]:
                office = Seals()
                with self.subTest(repr(roles)), self.assertRaises(BadAct) as caught:
                    Workshop(office, roles, expires)
                self.assertEqual((caught.exception.reason, office.count()), ("roles", 0))


class Turns(Case):
    def test_turns(self):
        workshop = self.workshop
        roles = [ROLES, OTHER_ROLES, OTHER_ROLES, ROLES]
        for at in range(1, 4):
            self.assertIsNone(workshop.turn(roles[at], 500 + at))
            sealed = workshop.text(f"{at + 1}.charter")
            self.assertEqual(content(sealed), charter(at + 1, 500 + at, roles[at]))
            self.assertEqual(signers(sealed), tuple(sorted(set(roles[at - 1][0][1] + roles[at][0][1]))))
        self.assertEqual(workshop.names(), ["1.charter", "2.charter", "3.charter", "4.charter"])
        published = [charter(at + 1, 500 + at, roles[at]) for at in range(4)]
        self.assertEqual(workshop.charters(), published)
        self.assertEqual(workshop.first(), workshop.text("1.charter"))

    def test_a_trusted_set_follows(self):
        trusted = Trusted(self.office, self.workshop.first())
        for at in range(2, 30):
            self.workshop.turn(OTHER_ROLES if at % 3 else ROLES, at)
            trusted.accept_charter(self.workshop.text(f"{at}.charter"))
        self.assertEqual(trusted.charter(), self.workshop.charters()[-1])

    def test_errors(self):
        for roles in [None, (), ROLES[:3], list(ROLES), ROLES[:3] + (role(3, "k1", "k2"),)]:
            for expires in [5, -1, None]:
                self.refused("roles", self.workshop.turn, roles, expires)
        for expires in BAD_TIMES:
            self.refused("expires", self.workshop.turn, OTHER_ROLES, expires)
        self.workshop.turn(OTHER_ROLES, 0)
        self.workshop.turn(OTHER_ROLES, LATE)

    def test_the_draft_stays(self):
        self.workshop.put("list", "p", "text")
        self.workshop.turn(OTHER_ROLES, 500)
        self.assertEqual(self.workshop.names(), ["1.charter", "2.charter"])
        self.workshop.publish(90)
        self.assertEqual(self.newest()[1], {"list": listing(expires=90, goods=[good("p")])})

    def test_the_greatest_charter_is_not_too_long_for_a_client(self):
        one = tuple((16, keys(10 ** 10 + 1000 * at, 16)) for at in range(4))
        two = tuple((16, keys(2 * 10 ** 10 + 1000 * at, 16)) for at in range(4))
        workshop = Workshop(self.office, one, LATE)
        workshop.turn(two, LATE)
        workshop.publish(LATE)
        self.assertEqual(len(signers(workshop.text("2.charter"))), MOST_SEALS)
        self.assertLess(len(workshop.text("2.charter")), MOST_CHARTER)
        self.assertLess(len(workshop.text("stamp")), MOST_STAMP)


class Drafts(Case):
    """What is put into the draft and taken out of it, seen by what is published then."""

    def setUp(self):
        Case.setUp(self)
        self.workshop.grant("list", grant("a"))

    def lists(self):
        self.workshop.publish(90)
        return {name: document[4:] for name, document in self.newest()[1].items()}

    def test_files(self):
        self.workshop.put("list", "q", "other")
        self.assertIsNone(self.workshop.put("a", "p", "text"))
        self.workshop.put("list", "p", "")
        self.assertEqual(self.lists(), {"list": ((good("p", ""), good("q", "other")), (grant("a"),)),
                                        "a": ((good("p"),), ())})
        self.workshop.put("list", "q", "new")
        self.assertIsNone(self.workshop.drop("list", "p"))
        self.assertEqual(self.lists(), {"list": ((good("q", "new"),), (grant("a"),)), "a": ((good("p"),), ())})
        self.workshop.drop("a", "p")
        self.workshop.drop("list", "q")
        self.assertEqual(self.lists(), {"list": ((), (grant("a"),)), "a": ((), ())})

    def test_the_files_ascend(self):
        for path in ["b", "a/c", "a", "a.c", "c", "a-c"]:
            self.workshop.put("list", path, path)
        self.assertEqual([one[0] for one in self.lists()["list"][0]], ["a", "a-c", "a.c", "a/c", "b", "c"])

    def test_grants_keep_their_order(self):
        for other in ["c", "b", "d"]:
            self.assertIsNone(self.workshop.grant("list", grant(other)))
        self.workshop.grant("b", grant("a", last=1))
        told_now = self.lists()
        self.assertEqual(told_now["list"][1], tuple(grant(other) for other in "acbd"))
        self.assertEqual(told_now["b"][1], (grant("a", last=1),))
        self.assertIsNone(self.workshop.revoke("list", "c"))
        self.workshop.grant("list", grant("c"))
        self.assertEqual(self.lists()["list"][1], tuple(grant(other) for other in "abdc"))

    def test_a_list_stays_behind_its_last_grant(self):
        self.workshop.put("a", "p", "text")
        self.workshop.revoke("list", "a")
        self.assertEqual(self.lists(), {"list": ((), ()), "a": ((good("p"),), ())})
        self.workshop.put("a", "q", "text")
        self.workshop.grant("list", grant("a"))
        self.assertEqual(self.lists()["a"], ((good("p"), good("q")), ()))

    def test_a_list_that_is_not_in_the_draft(self):
        for name in NO_STRINGS + ["", "b", "lists", "A", "a ", "stamp"]:
            self.refused("list", self.workshop.put, name, "", None)
            self.refused("list", self.workshop.put, name, "p", "text")
            self.refused("list", self.workshop.drop, name, "p")
            self.refused("list", self.workshop.drop, name, None)
            self.refused("list", self.workshop.grant, name, grant("c"))
            self.refused("list", self.workshop.grant, name, None)
            self.refused("list", self.workshop.revoke, name, "a")
            self.refused("list", self.workshop.revoke, name, None)
        self.assertEqual(self.lists(), {"list": ((), (grant("a"),)), "a": ((), ())})

    def test_values_that_are_no_paths(self):
        for path in NO_STRINGS + ["", "/", "a/", "A", "a*", "a" * 61, "a/b/c/d/e/f/g", "a b"]:
            for text in ["text", None, "\n"]:
                self.refused("path", self.workshop.put, "list", path, text)
            self.refused("path", self.workshop.drop, "list", path)
        self.assertEqual(self.lists()["list"][0], ())

    def test_texts(self):
        for text in NO_STRINGS + ["\n", "a" + chr(37), "\u00e9", "a" * (MOST_TEXT + 1), "a" * (2 * MOST_TEXT)]:
            self.refused("text", self.workshop.put, "list", "p", text)
        for text in ["", " ", "~", "a" * MOST_TEXT]:
            self.workshop.put("list", "p", text)
            self.assertEqual(self.lists()["list"][0], (good("p", text),))

    def test_values_that_are_no_grants(self):
        bad = FOREIGN + NO_STRINGS + [grant("list"), grant("A"), grant("b")[:3], grant("b") + (0,), list(grant("b")),
                                      grant("b", ()), grant("b", ("*",) * 9), grant("b", last=2)]
        bad += [value for worth in FOREIGN for value in replaced(grant("b"), worth)] + list(reshaped(grant("b")))
        for one in bad:
            self.refused("grant", self.workshop.grant, "list", one)
            self.refused("grant", self.workshop.grant, "a", one)
        for name in ["list", "a"]:
            self.refused("grant", self.workshop.grant, name, grant(name))
        self.refused("grant", self.workshop.grant, "list", grant("a", ("b",), 1, role(1, "k99")))
        self.assertEqual(self.lists(), {"list": ((), (grant("a"),)), "a": ((), ())})

    def test_a_revoked_grant_may_come_again(self):
        self.workshop.revoke("list", "a")
        self.workshop.grant("list", grant("a", ("b",)))
        self.assertEqual(self.lists()["list"][1], (grant("a", ("b",)),))

    def test_how_many_files(self):
        for at in range(MOST_GOODS):
            self.workshop.put("a", f"p{at}", "text")
        self.refused("full", self.workshop.put, "a", "p", "text")
        self.workshop.put("list", "p", "text")
        self.workshop.put("a", "p0", "other")
        self.assertEqual(len(self.lists()["a"][0]), MOST_GOODS)
        self.workshop.drop("a", "p5")
        self.workshop.put("a", "p", "text")
        self.refused("full", self.workshop.put, "a", "p5", "text")
        self.assertEqual(len(self.lists()["a"][0]), MOST_GOODS)

    def test_a_full_list_still_asks_for_a_path_and_a_text_first(self):
        for at in range(MOST_GOODS):
            self.workshop.put("a", f"p{at}", "text")
        self.refused("path", self.workshop.put, "a", "P", "\n")
        self.refused("text", self.workshop.put, "a", "p", "\n")

    def test_how_many_lists(self):
        for at in range(MOST_LISTS - 2):
            self.workshop.grant("list" if at % 2 else "a", grant("b" * (1 + at // 3) + "cde"[at % 3]))
        self.refused("full", self.workshop.grant, "list", grant("z"))
        self.refused("full", self.workshop.grant, "a", grant("z"))
        self.refused("grant", self.workshop.grant, "list", grant("Z"))
        self.refused("grant", self.workshop.grant, "list", grant("a"))
        self.workshop.grant("list", grant("bc"))
        self.workshop.revoke("list", "bc")
        self.refused("full", self.workshop.grant, "list", grant("z"))
        self.assertEqual(len(self.lists()), MOST_LISTS)
        self.assertEqual(len(self.newest()[0][3]), MOST_LISTS)

    def test_nothing_to_remove(self):
        self.workshop.put("list", "p", "text")
        for path in ["q", "p/p", "pp"]:
            self.refused("absent", self.workshop.drop, "list", path)
        self.refused("absent", self.workshop.drop, "a", "p")
        self.workshop.drop("list", "p")
        self.refused("absent", self.workshop.drop, "list", "p")
        for other in NO_STRINGS + ["list", "b", "", "A", grant("a")]:
            self.refused("absent", self.workshop.revoke, "list", other)
        self.refused("absent", self.workshop.revoke, "a", "a")
        self.workshop.revoke("list", "a")
        self.refused("absent", self.workshop.revoke, "list", "a")
        self.assertEqual(self.lists(), {"list": ((), ()), "a": ((), ())})

    def test_the_draft_is_not_published_before(self):
        before = told(self.workshop)
        self.workshop.put("list", "p", "text")
        self.workshop.grant("a", grant("b"))
        self.workshop.drop("list", "p")
        self.workshop.revoke("list", "a")
        self.assertEqual(told(self.workshop), before)


class Publications(Case):
    def test_a_first_publication(self):
        workshop = self.workshop
        workshop.put("list", "p", "text")
        workshop.grant("list", grant("a", by=role(2, "k50", "k51", "k52")))
        workshop.put("a", "q/r", "other")
        self.assertIsNone(workshop.publish(90))
        top = listing(expires=90, goods=[good("p")], grants=[grant("a", by=role(2, "k50", "k51", "k52"))])
        base = listing("a", expires=90, goods=[good("q/r", "other")])
        texts = {"1.list.list": signed(Seals(), top, LIST), "1.a.list": signed(Seals(), base,
                                                                               (2, ("k50", "k51", "k52")))}
        shelf = ("shelf", 1, 90, (("a",) + entry(texts["1.a.list"], 1), ("list",) + entry(texts["1.list.list"], 1)))
        texts["1.shelf"] = signed(Seals(), shelf, SHELF)
        texts["stamp"] = signed(Seals(), ("stamp", 1, 90, entry(texts["1.shelf"], 1)), STAMP)
        texts["1.charter"] = workshop.first()
        texts[digest("text") + ".p"] = "text"
        texts[digest("other") + ".q/r"] = "other"
        self.assertEqual({name: workshop.text(name) for name in workshop.names()}, texts)
        self.assertEqual(workshop.names(), sorted(texts))
        self.assertEqual(workshop.snapshot(1), (shelf, {"list": top, "a": base}))
        self.assertEqual(workshop.stamps(), [texts["stamp"]])

    def test_an_empty_draft(self):
        self.workshop.publish(0)
        self.assertEqual(self.newest()[1], {"list": listing(expires=0)})

    def test_versions_over_several_publications(self):
        workshop = self.workshop
        workshop.grant("list", grant("a"))
        workshop.grant("list", grant("b"))
        steps = [
            (lambda: None, {"list": 1, "a": 1, "b": 1}),
            (lambda: None, {"list": 1, "a": 1, "b": 1}),
            (lambda: workshop.put("a", "p", "text"), {"list": 1, "a": 2, "b": 1}),
            (lambda: workshop.put("a", "p", "text"), {"list": 1, "a": 2, "b": 1}),
            (lambda: workshop.put("a", "p", "other"), {"list": 1, "a": 3, "b": 1}),
            (lambda: workshop.grant("b", grant("c")), {"list": 1, "a": 3, "b": 2, "c": 1}),
            (lambda: workshop.drop("a", "p"), {"list": 1, "a": 4, "b": 2, "c": 1}),
            (lambda: workshop.put("list", "p", "text"), {"list": 2, "a": 4, "b": 2, "c": 1}),
            (lambda: workshop.revoke("b", "c"), {"list": 2, "a": 4, "b": 3, "c": 1}),
            (lambda: workshop.put("c", "p", "text"), {"list": 2, "a": 4, "b": 3, "c": 2}),
        ]
        for at, (step, versions) in enumerate(steps, 1):
            step()
            workshop.publish(90)
            with self.subTest(at):
                self.assertEqual(self.versions(), versions)
                self.assertEqual(self.newest()[0][1], at)
                self.assertEqual(content(workshop.text("stamp"))[1:3], (at, 90))
                self.assertEqual(content(workshop.text("stamp"))[3], entry(workshop.text(f"{at}.shelf"), at))
                for name, version in versions.items():
                    self.assertEqual(content(workshop.text(f"{version}.{name}.list"))[1:3], (name, version))

    def test_goods_that_come_back_are_the_same(self):
        self.workshop.put("list", "p", "text")
        self.workshop.publish(90)
        self.workshop.drop("list", "p")
        self.workshop.put("list", "q", "text")
        self.workshop.drop("list", "q")
        self.workshop.put("list", "p", "text")
        self.workshop.publish(90)
        self.assertEqual(self.versions(), {"list": 1})

    def test_the_time_of_a_publication(self):
        self.workshop.grant("list", grant("a"))
        for expires, version in [(90, 1), (90, 1), (89, 1), (0, 1), (90, 1), (91, 2), (91, 2), (90, 2), (LATE, 3)]:
            self.workshop.publish(expires)
            with self.subTest(expires):
                self.assertEqual(self.versions(), {"list": version, "a": version})
                self.assertEqual(self.newest()[0][2], expires)
                self.assertEqual(content(self.workshop.text("stamp"))[2], expires)
        self.assertEqual([content(self.workshop.text(f"{at}.a.list"))[3] for at in [1, 2, 3]], [90, 91, LATE])

    def test_a_changed_list_may_expire_earlier(self):
        self.workshop.grant("list", grant("a"))
        self.workshop.publish(90)
        self.workshop.put("a", "p", "text")
        self.workshop.publish(50)
        self.assertEqual({name: document[2:4] for name, document in self.newest()[1].items()},
                         {"list": (1, 90), "a": (2, 50)})
        self.workshop.publish(60)
        self.assertEqual({name: document[2:4] for name, document in self.newest()[1].items()},
                         {"list": (1, 90), "a": (3, 60)})

    def test_errors(self):
        self.workshop.put("list", "p", "text")
        for expires in BAD_TIMES:
            self.refused("expires", self.workshop.publish, expires)
            self.refused("expires", self.workshop.renew, expires)
        self.workshop.publish(90)
        self.assertEqual(self.versions(), {"list": 1})

    def test_nothing_is_taken_back(self):
        chance = random.Random(3)
        seen = {}
        for at in range(40):
            self.workshop.put("list", f"p{at % 3}", str(chance.randrange(9)))
            if at % 7 == 5:
                self.workshop.turn(chance.choice([ROLES, OTHER_ROLES]), at)
            if at % 3:
                self.workshop.publish(at)
            elif at > 3:
                self.workshop.renew(at)
            now = told(self.workshop)[0]
            for name, text in seen.items():
                self.assertIn(name, now)
                if name != "stamp":
                    self.assertEqual(now[name], text)
            seen = now
        self.assertEqual(seen["stamp"], self.workshop.stamps()[-1])
        self.assertEqual([content(sealed)[1] for sealed in self.workshop.stamps()],
                         list(range(1, len(self.workshop.stamps()) + 1)))

    def test_a_file_with_the_same_published_name_replaces(self):
        one, other = ONE_DIGEST
        self.assertEqual(digest(one), digest(other))
        self.workshop.put("list", "p", one)
        self.workshop.publish(90)
        name = file_name("p", digest(one))
        self.assertEqual(self.workshop.text(name), one)
        self.workshop.put("list", "p", other)
        self.assertEqual(self.workshop.text(name), one)
        self.workshop.publish(90)
        self.assertEqual(self.workshop.text(name), other)
        self.assertEqual(self.versions(), {"list": 1})

    def test_a_dropped_file_stays_published(self):
        self.workshop.put("list", "p", "text")
        self.workshop.publish(90)
        self.workshop.drop("list", "p")
        self.workshop.publish(90)
        self.assertEqual(self.workshop.text(file_name("p", digest("text"))), "text")

    def test_answers_are_the_callers_own(self):
        self.workshop.publish(90)
        before = told(self.workshop)
        self.workshop.names().append("x")
        self.workshop.stamps().append("x")
        self.workshop.charters().clear()
        self.workshop.snapshot(1)[1]["list"] = None
        self.assertEqual(told(self.workshop), before)

    def test_snapshots(self):
        self.workshop.publish(90)
        self.workshop.put("list", "p", "text")
        self.workshop.publish(91)
        self.assertEqual(self.workshop.snapshot(1)[1], {"list": listing(expires=90)})
        self.assertEqual(self.workshop.snapshot(2)[1], {"list": listing(version=2, expires=91, goods=[good("p")])})
        for version in [0, 3, -1, LATE, True, None, "1"]:
            self.refused("absent", self.workshop.snapshot, version)

    def test_two_workshops_share_nothing(self):
        other = Workshop(self.office, ROLES, 500)
        self.workshop.put("list", "p", "text")
        self.workshop.publish(90)
        self.assertEqual(other.names(), ["1.charter"])
        other.publish(80)
        self.assertEqual(other.snapshot(1)[1], {"list": listing(expires=80)})


class Keys(Case):
    """Which keys sign, and lists that count as changed because of their keys."""

    def signed_by(self, name):
        return signers(self.workshop.text(name))

    def test_the_keys_of_all_grants_in_the_draft(self):
        workshop = self.workshop
        workshop.grant("list", grant("a", by=role(1, "k50", "k51")))
        workshop.grant("list", grant("b", by=role(1, "k60")))
        workshop.publish(90)
        self.assertEqual((self.signed_by("1.a.list"), self.signed_by("1.b.list")), (("k50", "k51"), ("k60",)))
        workshop.grant("b", grant("a", by=role(2, "k49", "k51")))
        workshop.publish(90)
        self.assertEqual(self.versions(), {"list": 1, "a": 2, "b": 2})
        self.assertEqual(self.signed_by("2.a.list"), ("k49", "k50", "k51"))
        workshop.revoke("list", "a")
        workshop.publish(90)
        self.assertEqual(self.versions(), {"list": 2, "a": 3, "b": 2})
        self.assertEqual(self.signed_by("3.a.list"), ("k49", "k51"))

    def test_a_grant_that_changes_no_keys(self):
        workshop = self.workshop
        workshop.grant("list", grant("a", by=role(1, "k50", "k51")))
        workshop.grant("list", grant("b"))
        workshop.publish(90)
        workshop.grant("b", grant("a", ("x",), 1, role(2, "k50", "k51")))
        workshop.publish(90)
        self.assertEqual(self.versions(), {"list": 1, "a": 1, "b": 2})

    def test_the_last_grant(self):
        workshop = self.workshop
        workshop.grant("list", grant("a", by=role(1, "k50", "k51")))
        workshop.grant("list", grant("b"))
        workshop.grant("b", grant("a", by=role(1, "k52")))
        workshop.publish(90)
        workshop.revoke("list", "a")
        workshop.revoke("b", "a")
        workshop.publish(90)
        self.assertEqual(self.versions(), {"list": 2, "a": 2, "b": 2})
        self.assertEqual(self.signed_by("2.a.list"), ("k52",))
        workshop.put("a", "p", "text")
        workshop.publish(90)
        self.assertEqual(self.signed_by("3.a.list"), ("k52",))
        workshop.grant("list", grant("a", by=role(1, "k53")))
        workshop.publish(90)
        self.assertEqual(self.versions(), {"list": 3, "a": 4, "b": 2})
        self.assertEqual(self.signed_by("4.a.list"), ("k53",))
        workshop.revoke("list", "a")
        workshop.publish(90)
        self.assertEqual(self.versions(), {"list": 4, "a": 4, "b": 2})

    def test_a_grant_that_is_revoked_before_a_publication(self):
        self.workshop.grant("list", grant("a", by=role(1, "k50", "k51")))
        self.workshop.revoke("list", "a")
        self.workshop.publish(90)
        self.assertEqual(self.versions(), {"list": 1, "a": 1})
        self.assertEqual(self.signed_by("1.a.list"), ("k50", "k51"))

    def test_revoked_keys_do_not_count_for_what_is_full(self):
        workshop = self.workshop
        workshop.grant("list", grant("b"))
        workshop.grant("list", grant("a", by=(1, keys(100, 16))))
        workshop.revoke("list", "a")
        workshop.grant("list", grant("a", by=(1, keys(200, 16))))
        workshop.grant("b", grant("a", by=(1, keys(300, 16))))
        workshop.publish(90)
        self.assertEqual(self.signed_by("1.a.list"), keys(200, 16) + keys(300, 16))

    def test_how_many_keys(self):
        workshop = self.workshop
        for name in "bcd":
            workshop.grant("list", grant(name))
        workshop.grant("list", grant("a", by=(1, keys(100, 16))))
        workshop.grant("b", grant("a", by=(1, keys(200, 15))))
        self.refused("full", workshop.grant, "c", grant("a", by=(1, keys(300, 2))))
        self.refused("full", workshop.grant, "c", grant("a", by=(1, keys(300, 16))))
        workshop.grant("c", grant("a", by=(1, keys(300, 1))))
        self.refused("full", workshop.grant, "d", grant("a", by=role(1, "k999")))
        workshop.grant("d", grant("a", by=(16, keys(100, 8) + keys(200, 8))))
        workshop.publish(90)
        self.assertEqual(self.signed_by("1.a.list"), keys(100, 16) + keys(200, 15) + keys(300, 1))
        self.assertEqual(len(self.signed_by("1.a.list")), MOST_SEALS)

    def test_a_turn_between_two_publications(self):
        workshop = self.workshop
        workshop.grant("list", grant("a"))
        workshop.publish(90)
        workshop.turn(OTHER_ROLES, 500)
        before = told(workshop)
        self.assertEqual(before[2], workshop.stamps()[:1])
        workshop.publish(90)
        self.assertEqual(self.versions(), {"list": 2, "a": 1})
        for name, by in [("stamp", 1), ("2.shelf", 2), ("2.list.list", 3)]:
            self.assertEqual(self.signed_by(name), OTHER_ROLES[by][1])
        for name, by in [("1.shelf", 2), ("1.list.list", 3)]:
            self.assertEqual(self.signed_by(name), ROLES[by][1])
        self.assertEqual(signers(workshop.stamps()[0]), STAMP[1])

    def test_a_turn_that_changes_no_keys_of_the_top_list(self):
        self.workshop.publish(90)
        self.workshop.turn(OTHER_ROLES[:3] + (role(2, *LIST[1]),), 500)
        self.workshop.publish(90)
        self.assertEqual(self.versions(), {"list": 1})

    def test_two_turns_that_lead_back(self):
        self.workshop.publish(90)
        self.workshop.turn(OTHER_ROLES, 500)
        self.workshop.turn(ROLES, 500)
        self.workshop.publish(90)
        self.assertEqual(self.versions(), {"list": 1})
        self.workshop.turn(OTHER_ROLES, 500)
        self.workshop.publish(90)
        self.workshop.turn(ROLES, 500)
        self.workshop.publish(90)
        self.assertEqual(self.versions(), {"list": 3})

    def test_old_keys_do_not_sign_any_more(self):
        made = []
        office = self.office

        class Watched:
            def make(self, key, text):
                made.append(key)
                return office.make(key, text)

        workshop = Workshop(Watched(), ROLES, 500)
        workshop.publish(90)
        workshop.turn(OTHER_ROLES, 500)
        self.assertEqual(set(made[-6:]), set(CHARTER[1] + OTHER_ROLES[0][1]))
        made.clear()
        workshop.put("list", "p", "text")
        workshop.publish(95)
        workshop.renew(96)
        workshop.turn(OTHER_ROLES, 500)
        workshop.publish(97)
        self.assertEqual(set(made), {key for one in OTHER_ROLES for key in one[1]})


class Renewals(Case):
    def test_before_the_first_publication(self):
        self.refused("absent", self.workshop.renew, 90)
        self.workshop.turn(OTHER_ROLES, 500)
        self.refused("absent", self.workshop.renew, 0)

    def test_the_expiry_time_comes_first(self):
        for expires in BAD_TIMES:
            self.refused("expires", self.workshop.renew, expires)

    def test_a_stamp_for_the_newest_shelf(self):
        self.workshop.publish(90)
        self.workshop.publish(91)
        self.workshop.put("list", "p", "text")
        before = told(self.workshop)
        for version, expires in [(3, 95), (4, 10), (5, 0), (6, LATE)]:
            self.assertIsNone(self.workshop.renew(expires))
            sealed = self.workshop.text("stamp")
            self.assertEqual(content(sealed), ("stamp", version, expires, entry(self.workshop.text("2.shelf"), 2)))
            self.assertEqual(signers(sealed), STAMP[1])
            self.assertEqual(self.workshop.stamps()[-1], sealed)
            self.assertEqual(len(self.workshop.stamps()), version)
        after = told(self.workshop)
        self.assertEqual(after[3:], before[3:])
        self.assertEqual({**after[0], "stamp": ""}, {**before[0], "stamp": ""})
        self.workshop.publish(92)
        self.assertEqual(content(self.workshop.text("stamp"))[1], 7)

    def test_behind_a_turn(self):
        self.workshop.publish(90)
        self.workshop.turn(OTHER_ROLES, 500)
        self.workshop.renew(95)
        self.assertEqual(signers(self.workshop.text("stamp")), OTHER_ROLES[1][1])
        self.assertEqual(content(self.workshop.text("stamp"))[3], entry(self.workshop.text("1.shelf"), 1))


class ManyActs(unittest.TestCase):
    """Acts by chance beside an account of the draft that is kept apart from the program."""

    def test_publications_beside_an_account(self):
        for seed in range(25):
            self.play(random.Random(seed))

    def play(self, chance):
        office = Seals()
        workshop = Workshop(office, ROLES, 500)
        goods, grants, old = {"list": {}}, {"list": []}, {}
        last, shelves, roles = {}, 0, ROLES
        for _ in range(60):
            name, other, path = chance.choice(["list", "a", "b", "c"]), chance.choice("abcd"), chance.choice("pqr")
            act = chance.choice(["put", "put", "drop", "grant", "grant", "revoke", "publish", "publish", "turn"])
            granted = [one[0] for one in grants.get(name, [])]
            one = grant(other, chance.choice([("*",), ("p",)]), chance.randrange(2),
                        role(1, *chance.sample(["k50", "k51", "k52"], chance.choice([1, 2]))))
            if act == "turn":
                roles = chance.choice([ROLES, OTHER_ROLES])
                workshop.turn(roles, 500)
            elif act == "publish":
                expires = chance.choice([80, 90, 90, 100])
                workshop.publish(expires)
                shelves += 1
                for known in goods:
                    by = roles[3][1] if known == "list" else self.keys_for(known, grants, old)
                    now = (tuple(good(*pair) for pair in sorted(goods[known].items())), tuple(grants[known]), by)
                    before = last.get(known)
                    if before is None or before[2] != now or before[1] < expires:
                        last[known] = (before[0] + 1 if before else 1, expires, now)
                self.compare(workshop, shelves, expires, last, roles)
            elif name not in goods:
                self.refused("list", getattr(workshop, act), name, *[0] * (2 if act == "put" else 1))
            elif act == "put":
                text = chance.choice(["", "text", "other"])
                workshop.put(name, path, text)
                goods[name][path] = text
            elif act == "drop" and path in goods[name]:
                workshop.drop(name, path)
                del goods[name][path]
            elif act == "drop":
                self.refused("absent", workshop.drop, name, path)
            elif act == "grant" and other not in granted and other != name:
                workshop.grant(name, one)
                grants[name].append(one)
                goods.setdefault(other, {})
                grants.setdefault(other, [])
            elif act == "grant":
                self.refused("grant", workshop.grant, name, one)
            elif other in granted:
                old[other] = self.keys_for(other, grants, old)
                workshop.revoke(name, other)
                grants[name] = [one for one in grants[name] if one[0] != other]
            else:
                self.refused("absent", workshop.revoke, name, other)

    def keys_for(self, name, grants, old):
        found = {key for some in grants.values() for one in some if one[0] == name for key in one[1][1]}
        return tuple(sorted(found)) if found else old[name]

    def refused(self, reason, call, *some):
        with self.assertRaises(BadAct) as caught:
            call(*some)
        self.assertEqual(caught.exception.reason, reason)

    def compare(self, workshop, version, expires, last, roles):
        shelf, lists = workshop.snapshot(version)
        self.assertEqual(set(lists), set(last))
        rows = []
        for name in sorted(last):
            number, until, (goods, grants, by) = last[name]
            document = ("list", name, number, until, goods, grants)
            self.assertEqual(lists[name], document)
            sealed = workshop.text(published_name(document))
            self.assertEqual(content(sealed), document)
            self.assertEqual(signers(sealed), by)
            rows.append((name,) + entry(sealed, number))
            for path, length, told_digest in goods:
                self.assertEqual(len(workshop.text(file_name(path, told_digest))), length)
        self.assertEqual(shelf, ("shelf", version, expires, tuple(rows)))
        sealed = workshop.text(f"{version}.shelf")
        self.assertEqual((content(sealed), signers(sealed)), (shelf, roles[2][1]))
        stamp = workshop.text("stamp")
        self.assertEqual(content(stamp), ("stamp", len(workshop.stamps()), expires, entry(sealed, version)))
        self.assertEqual(signers(stamp), roles[1][1])


class Whole(Case):
    def test_a_full_repository(self):
        names = ["".join(pair) for pair in zip("abcdefghijklmnop" * 2, "q" * 16 + "r" * 15)]
        wide = (16, tuple(f"k99999999{at:03}" for at in range(16)))
        for name in names:
            self.workshop.grant("list", grant(name, ("a*" * 30,) * 8, 1, wide))
        for name in ["list"] + names[:2]:
            for at in range(MOST_GOODS):
                self.workshop.put(name, f"{at:02}" + "a" * 58, "text")
        self.workshop.publish(LATE)
        self.assertEqual(len(self.newest()[1]), MOST_LISTS)
        for name in self.workshop.names():
            self.assertLess(len(self.workshop.text(name)), MOST_TEXT)


if __name__ == "__main__":
    unittest.main()

"""Points 1 to 4 over the whole program: a repository, mirrors that nobody trusts, and a client whose disk crashes.

The enemy holds the keys that end in 9, which are fewer than the threshold of each role and of each grant.
"""

import random
import unittest

from kit import (
    LATE, ROLES, Mirror, answers, charter, content, entry, good, grant, listing, padded, refresh, role, serve, shelf,
    signed, stamp, stored, swapped,
)

from sealchart.client import Client
from sealchart.digests import digest
from sealchart.disk import Disk
from sealchart.documents import file_name, published_name, write
from sealchart.envelope import opened, seal
from sealchart.errors import DiskCrashed
from sealchart.limits import MOST_CHARTER, MOST_LISTS, MOST_STAMP, MOST_TURNS
from sealchart.search import Search, lookup
from sealchart.seals import Seals
from sealchart.texts import encode
from sealchart.trusted import role_of
from sealchart.workshop import Workshop

PATHS = ["a/p", "a/q", "b/p", "p", "q"]
NAMES = ["list", "a", "b", "c", "d"]


def some_role(chance, first):
    """A role whose threshold is greater than the number of its stolen keys."""
    honest = [f"k{first}{digit}" for digit in chance.sample(range(8), chance.choice([1, 2, 3]))]
    taken = [f"k{first}{digit}9" for digit in range(chance.choice([0, 0, 1, 2]))]
    least = len(taken) + 1
    return role(chance.randint(least, max(least, len(honest))) if len(honest) >= least else least, *honest, *taken)


def some_roles(chance, before=None):
    """Four roles, some of which may be those of the charter before."""
    roles = [some_role(chance, first) for first in (1, 2, 3, 4)]
    if before is not None:
        roles = [old if chance.random() < 0.6 else new for old, new in zip(before, roles)]
    return tuple(roles)


class Enemy:
    """Who makes documents with the stolen keys, and forges the marks of the other ones."""

    def __init__(self, chance, office, workshop):
        self.chance = chance
        self.office = office
        self.workshop = workshop

    def keys(self):
        return [f"k{first}{digit}9" for first in (1, 2, 3, 4, 5) for digit in range(2)]

    def sealed(self, document, *roles):
        """The sealed text with real marks of the stolen keys, and with marks of the others that nobody made."""
        text = write(document)
        marks = dict(opened(seal(self.office, text, self.keys()))[1])
        for one in roles:
            for key in one[1]:
                marks.setdefault(key, digest(key + " " + text))
        return encode((text, tuple(sorted(marks.items())[:32])))

    def text(self, name):
        """A text of the enemy for a published name."""
        newest = self.workshop.charters()[-1]
        roles = newest[3]
        if name.endswith(".charter"):
            mine = tuple(role(1, key) for key in self.keys()[:4])
            return self.sealed(charter(int(name.split(".")[0]), LATE, mine), roles[0])
        if name == "stamp":
            return self.sealed(stamp(self.chance.choice([1, 5, 1000]), "text", self.chance.choice([1, 5, 1000]),
                                     LATE), roles[1])
        if name.endswith(".shelf"):
            return self.sealed(shelf(int(name.split(".")[0]), {"list": entry("text", 1)}, LATE), roles[2])
        if name.endswith(".list"):
            version, word, _ = name.split(".")
            return self.sealed(listing(word, int(version), LATE, [good("p", "evil")]), roles[3])
        return "evil"


class HostileMirror:
    def __init__(self, chance, workshop, enemy):
        self.chance = chance
        self.workshop = workshop
        self.enemy = enemy

    def answer(self, wanted):
        name, most = wanted
        chance = self.chance
        right = self.workshop.text(name)
        kind = chance.choice(["right"] * 14 + ["none", "old", "foreign", "damaged", "long", "enemy", "seals", "short",
                                               "odd"])
        if kind == "right" or right is None and kind in ("damaged", "seals", "short"):
            return right
        if kind == "none":
            return None
        if kind == "old":
            return chance.choice(self.workshop.stamps()) if self.workshop.stamps() else None
        if kind == "foreign":
            return self.workshop.text(chance.choice(self.workshop.names()))
        if kind == "damaged":
            return chance.choice([right + " ", swapped(right + "ab"), padded("x", len(right)), right.replace("1", "2")])
        if kind == "long":
            return (right or "") + "x" * (most + 1)
        if kind == "enemy":
            return self.enemy.text(name)
        if kind == "short":
            return right[:len(right) // 2]
        return self.other_seals(right) if kind == "seals" else chance.choice([7, b"", [], True, ("a",)])

    def other_seals(self, sealed):
        """The text with some seals left out, if it is a sealed one."""
        if not sealed.startswith("["):
            return sealed + "x"
        text, seals = opened(sealed)
        return encode((text, tuple(one for one in seals if self.chance.random() < 0.8)))


class World:
    """One repository and one client with everything that is checked behind each step."""

    def __init__(self, case, seed):
        self.case = case
        self.chance = random.Random(seed)
        self.office = Seals()
        self.time = 0
        self.workshop = Workshop(self.office, some_roles(self.chance), self.later())
        self.enemy = Enemy(self.chance, self.office, self.workshop)
        self.disk = Disk()
        self.client = Client(self.disk, self.office, self.workshop.first())
        self.charter_version = 1
        self.epoch = None
        self.least = {}
        self.installed = {}
        self.counts = {"ready": 0, "found": 0, "failed": 0, "crash": 0, "none": 0, "expired": 0}
        self.edit()
        self.workshop.publish(self.later())

    def later(self):
        return self.time + self.chance.choice([3, 20, 60, 200])

    def edit(self):
        """Change the draft somehow."""
        chance, workshop = self.chance, self.workshop
        for _ in range(chance.randrange(1, 5)):
            name, other = chance.choice(NAMES), chance.choice(NAMES[1:])
            try:
                if chance.random() < 0.4:
                    patterns = chance.choice([["*", "*/*"], ["a/*"], ["p", "b/*"], ["*/p"]])
                    workshop.grant(name, grant(other, patterns, int(chance.random() < 0.2), some_role(chance, 5)))
                elif chance.random() < 0.15:
                    workshop.revoke(name, other)
                elif chance.random() < 0.2:
                    workshop.drop(name, chance.choice(PATHS))
                else:
                    workshop.put(name, chance.choice(PATHS), "file " + str(chance.randrange(50)))
            except Exception as error:
                self.case.assertIn(error.reason, ["list", "grant", "absent", "full"])

    def publish_something(self):
        act = self.chance.random()
        if act < 0.2:
            before = self.workshop.charters()[-1][3]
            for _ in range(self.chance.choice([1, 1, 2, 5, 16])):
                self.workshop.turn(some_roles(self.chance, before), self.later())
        elif act < 0.5:
            self.workshop.renew(self.later())
            return
        self.edit()
        self.workshop.publish(self.later())

    def play(self, steps):
        for _ in range(steps):
            act = self.chance.random()
            self.time += self.chance.choice([0, 0, 1, 2, 5])
            if act < 0.25:
                self.publish_something()
            if self.chance.random() < 0.3:
                self.disk.arm(self.chance.randrange(6), self.chance.random() < 0.5)
            mirror = HostileMirror(self.chance, self.workshop, self.enemy)
            if self.chance.random() < 0.4:
                mirror = Mirror(self.workshop)
            try:
                self.run_refresh(mirror)
                for _ in range(self.chance.randrange(4)):
                    self.run_search(mirror)
            except DiskCrashed:
                self.counts["crash"] += 1
                self.disk.restart()
                self.client = Client(self.disk, self.office, self.workshop.first())
                self.check()
            if self.chance.random() < 0.2:
                self.come_home()

    def run(self, mirror, most):
        """Answer until nothing is wanted, and check each step and the number of texts."""
        asked = 0
        while self.client.wanted() is not None:
            name, length = self.client.wanted()
            self.case.assertEqual(self.client.status(), ("busy",))
            self.check_length(name, length)
            asked += 1
            self.case.assertLessEqual(asked, most)
            self.client.give(mirror.answer((name, length)))
            self.check()
        self.count(self.client.status())

    def count(self, status):
        self.counts[status[0]] += 1
        if status[:2] == ("failed", "expired"):
            self.counts["expired"] += 1

    def check_length(self, name, length):
        """Each wanted text has a greatest length that is known: it is fixed, or a signed document names it."""
        if name.endswith(".charter"):
            self.case.assertEqual(length, MOST_CHARTER)
        elif name == "stamp":
            self.case.assertEqual(length, MOST_STAMP)
        else:
            self.case.assertEqual(length, len(self.workshop.text(name)))

    def run_refresh(self, mirror):
        self.started = self.time
        self.client.start(self.time)
        self.run(mirror, MOST_TURNS + 3)

    def run_search(self, mirror):
        if self.client.status()[0] not in ("ready", "found", "none"):
            return
        path = self.chance.choice(PATHS)
        installs = self.chance.random() < 0.7
        (self.client.install if installs else self.client.look)(path)
        self.check()
        self.run(mirror, MOST_LISTS + 1)
        if self.client.status()[0] in ("found", "none"):
            self.check_result(path, installs)

    def check(self):
        """What holds at any time, as far as the trusted set and the disk show it."""
        trusted, case = self.client.trusted(), self.case
        case.assertGreaterEqual(trusted.charter()[1], self.charter_version)
        self.charter_version = trusted.charter()[1]
        case.assertIn(trusted.charter(), self.workshop.charters())
        self.check_versions(trusted)
        if trusted.stamp() is not None:
            case.assertIn(trusted.stamp(), [content(sealed) for sealed in self.workshop.stamps()])
        if trusted.shelf() is not None:
            case.assertEqual(trusted.shelf(), self.workshop.snapshot(trusted.shelf()[1])[0])
        for name in NAMES:
            document = trusted.list_of(name)
            if document is not None:
                case.assertEqual(document, content(self.workshop.text(published_name(document))))
        for name, text in stored(self.disk).items():
            if name.startswith("file."):
                case.assertEqual(self.workshop.text(file_name(name[5:], digest(text))), text)

    def check_versions(self, trusted):
        """No version falls as long as the roles stamp and shelf stay the same."""
        roles = (role_of(trusted.charter(), "stamp"), role_of(trusted.charter(), "shelf"))
        if roles != self.epoch:
            self.epoch = roles
            self.least = {}
        if trusted.outdated():
            return
        now = {}
        if trusted.stamp() is not None:
            now["stamp"] = trusted.stamp()[1]
        if trusted.shelf() is not None:
            now["shelf"] = trusted.shelf()[1]
            for name, version, _, _ in trusted.shelf()[3]:
                now["list " + name] = version
        for name in NAMES:
            if trusted.list_of(name) is not None:
                now["kept " + name] = trusted.list_of(name)[2]
        for word, version in now.items():
            self.case.assertGreaterEqual(version, self.least.get(word, 0))
        self.least.update(now)

    def check_result(self, path, installs):
        """A found path is what the plain meaning of a search in the published snapshot says, and all of it is fresh."""
        case, status = self.case, self.client.status()
        version = self.client.versions()[2]
        document, lists = self.workshop.snapshot(version)
        trusted = self.client.trusted()
        told = lookup(trusted.charter(), document, lists, path)
        if told == ("none",):
            case.assertEqual(status, ("none", path))
        else:
            case.assertEqual(status, ("found", path) + told[1:])
        way = [trusted.charter(), trusted.stamp(), document]
        search = Search(trusted.charter(), document, path)
        while search.wanted() is not None:
            way.append(lists[search.wanted()[0]])
            search.give(way[-1])
        for one in way:
            case.assertGreater(one[3] if one[0] == "list" else one[2], self.started)
        if installs and status[0] == "found":
            text = self.disk.read("file." + path)
            case.assertEqual((len(text), digest(text)), status[3:])

    def come_home(self):
        """Behind a restart and with an honest mirror, refreshes end with the newest snapshot."""
        self.disk.restart()
        self.workshop.turn(self.workshop.charters()[-1][3], self.time + 50)
        self.workshop.publish(self.time + 50)
        self.client = Client(self.disk, self.office, self.workshop.first())
        mirror = Mirror(self.workshop)
        # One refresh accepts so many charters, and the ones behind need a further one.
        behind = self.workshop.charters()[-1][1] - self.client.versions()[0]
        for _ in range(behind // MOST_TURNS + 1):
            self.run_refresh(mirror)
        document, _ = self.workshop.snapshot(content(self.workshop.text("stamp"))[3][0])
        self.case.assertEqual(self.client.status(), ("ready", document[1]))
        self.case.assertEqual(self.client.trusted().shelf(), document)
        for path in PATHS:
            self.client.install(path)
            self.run(mirror, MOST_LISTS + 1)
            self.case.assertIn(self.client.status()[0], ("found", "none"))
            self.check_result(path, True)


class Promises(unittest.TestCase):
    def test_many_worlds(self):
        total = {}
        for seed in range(60):
            world = World(self, seed)
            world.play(40)
            for word, number in world.counts.items():
                total[word] = total.get(word, 0) + number
        # Each kind of end was met often enough for the checks to mean something.
        for word, least in [("ready", 800), ("found", 500), ("failed", 500), ("crash", 100), ("none", 30),
                            ("expired", 50)]:
            self.assertGreater(total[word], least, total)


class Case(unittest.TestCase):
    def setUp(self):
        self.office = Seals()
        self.workshop = Workshop(self.office, ROLES, 500)
        self.workshop.grant("list", grant("a", ["a/*"], by=role(2, "k50", "k51")))
        self.workshop.put("list", "p", "one")
        self.workshop.put("a", "a/p", "two")
        self.workshop.publish(100)
        self.disk = Disk()
        self.client = Client(self.disk, self.office, self.workshop.first())
        self.mirror = Mirror(self.workshop)

    def install(self, path, mirror=None):
        self.client.install(path)
        return serve(self.client, mirror or self.mirror)


class NeverBack(Case):
    def test_old_texts(self):
        refresh(self.client, self.mirror)
        old = {name: self.workshop.text(name) for name in self.workshop.names()}
        self.workshop.put("list", "p", "three")
        self.workshop.publish(100)
        refresh(self.client, self.mirror)
        for again in [False, True]:
            if again:
                self.client = Client(self.disk, self.office, self.workshop.first())
            before = answers(self.client.trusted())
            self.assertEqual(refresh(self.client, Mirror(self.workshop, old)), ("failed", "version", "stamp"))
            self.assertEqual(answers(self.client.trusted()), before)
            self.assertEqual(self.client.versions(), (1, 2, 2))

    def test_an_expired_stamp_bars_the_older_ones(self):
        self.workshop.renew(50)
        self.assertEqual(refresh(self.client, self.mirror, 60), ("failed", "expired", "stamp"))
        older = Mirror(self.workshop, {"stamp": self.workshop.stamps()[0]})
        for again in [False, True]:
            if again:
                self.client = Client(self.disk, self.office, self.workshop.first())
            self.assertEqual(refresh(self.client, older, 60), ("failed", "version", "stamp"))

    def test_the_charter_never_falls(self):
        self.workshop.turn(ROLES, 500)
        refresh(self.client, self.mirror)
        for first in [self.workshop.first(), None, "a"]:
            client = Client(self.disk, self.office, first)
            self.assertEqual(client.versions()[0], 2)
            client.start(0)
            client.give(self.workshop.first())
            self.assertEqual(client.status(), ("failed", "version", "3.charter"))
            self.assertEqual(client.versions()[0], 2)


class OnlyWhatWasPublished(Case):
    def test_texts_of_the_enemy(self):
        # One key less than the threshold of each role, and one of the two keys of the grant.
        weak = {name: one[1][:one[0] - 1] for name, one in zip(["charter", "stamp", "shelf", "list"], ROLES)}

        def sealed(document, name):
            return seal(self.office, write(document), list(weak[name]))

        refresh(self.client, self.mirror)
        rows = {"list": entry("x", 9), "a": entry("y", 9)}
        for name, text in [("2.charter", sealed(charter(2, 900), "charter")),
                           ("stamp", sealed(stamp(9, "x", 9), "stamp"))]:
            before = answers(self.client.trusted()), stored(self.disk)
            self.assertEqual(refresh(self.client, Mirror(self.workshop, {name: text})), ("failed", "seals", name))
            self.assertEqual((answers(self.client.trusted()), stored(self.disk)), before)
        # Where stamps are signed by stolen keys, the shelf, and then the list, still are not.
        text = sealed(shelf(9, rows), "shelf")
        instead = {"stamp": signed(self.office, stamp(9, text, 9), ROLES[1]), "9.shelf": text}
        self.assertEqual(refresh(self.client, Mirror(self.workshop, instead)), ("failed", "seals", "9.shelf"))

    def test_lists_of_the_enemy(self):
        evil = listing("a", 9, goods=[good("a/p", "evil")])
        text = seal(self.office, write(evil), ["k50", "k40", "k41"])
        top = self.workshop.text("1.list.list")
        rows = {"list": entry(top, 1), "a": entry(text, 9)}
        sealed = signed(self.office, shelf(9, rows), ROLES[2])
        instead = {"stamp": signed(self.office, stamp(9, sealed, 9), ROLES[1]), "9.shelf": sealed, "9.a.list": text}
        mirror = Mirror(self.workshop, instead)
        self.assertEqual(refresh(self.client, mirror), ("ready", 9))
        self.assertEqual(self.install("a/p", mirror), ("failed", "seals", "9.a.list"))
        self.assertNotIn("file.a/p", self.disk.names())


class OneSnapshot(Case):
    def test_texts_that_do_not_belong_together(self):
        old = {name: self.workshop.text(name) for name in self.workshop.names()}
        self.workshop.put("a", "a/p", "three")
        self.workshop.publish(100)
        for name, told in [("2.shelf", "1.shelf"), ("2.a.list", "1.a.list"),
                           (file_name("a/p", digest("three")), file_name("a/p", digest("two")))]:
            self.setUp()
            self.workshop.put("a", "a/p", "three")
            self.workshop.publish(100)
            mirror = Mirror(self.workshop, {name: old[told]})
            status = refresh(self.client, mirror)
            if status[0] == "ready":
                status = self.install("a/p", mirror)
            self.assertEqual(status[0::2], ("failed", name))
            self.assertIn(status[1], ["length", "digest"])
            self.assertNotIn("file.a/p", self.disk.names())

    def test_a_file_of_a_list_to_which_no_grant_leads(self):
        self.workshop.put("a", "q", "four")
        self.workshop.publish(100)
        refresh(self.client, self.mirror)
        self.assertEqual(self.install("q"), ("none", "q"))
        self.workshop.revoke("list", "a")
        self.workshop.publish(100)
        refresh(self.client, self.mirror)
        self.assertEqual(self.install("a/p"), ("none", "a/p"))


class Fresh(Case):
    def test_nothing_is_installed_from_what_has_expired(self):
        for at in ["charter", "stamp", "shelf", "list", None]:
            office = Seals()
            workshop = Workshop(office, ROLES, 50 if at == "charter" else 500)
            workshop.grant("list", grant("a"))
            workshop.put("a", "p", "text")
            workshop.publish(50 if at == "list" else 500)
            if at == "list":
                # The top list is replaced by one that lasts, and the list a is not.
                workshop.put("list", "q", "text")
                workshop.publish(40)
            if at in ("shelf", "list"):
                workshop.publish(49)
                workshop.renew(500)
            if at == "stamp":
                workshop.renew(50)
            for time, told in [(10, True), (60, at is None)]:
                client = Client(Disk(), office, workshop.first())
                status = refresh(client, Mirror(workshop), time)
                if status[0] == "ready":
                    client.install("p")
                    status = serve(client, Mirror(workshop))
                with self.subTest((at, time)):
                    self.assertEqual(status[0], "found" if told else "failed")


class ComesHome(Case):
    def test_from_anywhere(self):
        for at in range(30):
            self.workshop.put("list", "p", f"text {at}")
            if at % 5 == 0:
                self.workshop.turn(ROLES, 500)
            self.workshop.publish(100)
            if at % 3 == 0:
                self.assertEqual(refresh(self.client, self.mirror), ("ready", at + 2))
                self.assertEqual(self.install("p")[0], "found")
                self.assertEqual(self.disk.read("file.p"), f"text {at}")
        self.assertEqual(refresh(Client(Disk(), self.office, self.workshop.first()), self.mirror), ("ready", 31))

    def test_mirrors_that_give_nothing_or_anything(self):
        class Endless:
            """A mirror that hands out charters without end."""

            def __init__(self, office):
                self.office = office
                self.many = 0

            def answer(self, wanted):
                self.many += 1
                if wanted[0].endswith(".charter"):
                    return signed(self.office, charter(int(wanted[0].split(".")[0])), ROLES[0])
                return None

        mirror = Endless(self.office)
        self.assertEqual(refresh(self.client, mirror), ("failed", "missing", "stamp"))
        self.assertEqual(mirror.many, MOST_TURNS + 1)
        for answer in [None, "", "a", 7]:
            class Stubborn:
                def answer(self, wanted):
                    return answer

            self.assertEqual(refresh(self.client, Stubborn())[0], "failed")
        self.assertEqual(self.client.versions(), (1 + MOST_TURNS, 0, 0))


class Recovery(Case):
    def test_stolen_keys_of_stamp_and_shelf(self):
        roles = (ROLES[0], role(1, "k27"), role(1, "k37"), ROLES[3])
        for after in [roles[:1] + (role(1, "k27"), role(1, "k38")) + roles[3:],
                      roles[:1] + (role(1, "k28"), role(1, "k37")) + roles[3:],
                      roles[:1] + (role(1, "k28"), role(1, "k38")) + roles[3:]]:
            for kept in [False, True]:
                self.setUp()
                refresh(self.client, self.mirror)
                top = self.workshop.text("1.list.list")
                sealed = signed(self.office, shelf(LATE, {"list": entry(top, 1), "a": entry("x", LATE)}, LATE),
                                ROLES[2])
                evil = {"stamp": signed(self.office, stamp(LATE, sealed, LATE, LATE), ROLES[1]),
                        f"{LATE}.shelf": sealed}
                refresh(self.client, Mirror(self.workshop, evil))
                self.assertEqual(self.client.versions(), (1, LATE, LATE))
                self.assertEqual(refresh(self.client, self.mirror), ("failed", "version", "stamp"))
                self.workshop.turn(after, 500)
                self.workshop.publish(100)
                if kept:
                    self.client = Client(self.disk, self.office, self.workshop.first())
                self.assertEqual(refresh(self.client, self.mirror), ("ready", 2))
                self.assertEqual(self.client.versions(), (2, 2, 2))
                self.assertEqual(self.install("a/p")[0], "found")


if __name__ == "__main__":
    unittest.main()

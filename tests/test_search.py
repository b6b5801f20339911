"""Points 411 and 412: a search, and its plain meaning."""

import copy
import itertools
import random
import unittest

from kit import FOREIGN, LATE, ROLES, SUM, charter, good, grant, listing, role

from sealchart.documents import covers
from sealchart.errors import BadState
from sealchart.limits import MOST_LISTS
from sealchart.search import Search, lookup

FILE = good("p")
FOUND = FILE[1:]


def shelf_of(names):
    return ("shelf", 1, 1000, tuple((name, 1, 2, SUM) for name in sorted(set(names) | {"list"})))


def by(number):
    return role(1, "k" + str(number))


def lists_of(**grants):
    """A dict of lists with these grants; a list without any is given by an empty list."""
    return {name: listing(name, grants=some) for name, some in grants.items()}


def route(lists, path="p", names=None, most=100):
    """Search, and return the wanted lists with their roles in order, and the result."""
    search = Search(charter(), shelf_of(names if names is not None else lists), path)
    wanted = []
    while search.wanted() is not None and len(wanted) < most:
        assert search.result() is None
        wanted.append(search.wanted())
        assert search.give(lists[search.wanted()[0]]) is None
    return wanted, search.result()


def names_of(lists, path="p", names=None):
    return [name for name, _ in route(lists, path, names)[0]]


class OneList(unittest.TestCase):
    def test_the_top_list_is_wanted_first_under_the_role_of_the_charter(self):
        search = Search(charter(), shelf_of(["a"]), "p")
        self.assertEqual(search.wanted(), ("list", ROLES[3]))
        self.assertEqual(search.wanted(), ("list", ROLES[3]))
        self.assertIsNone(search.result())

    def test_a_path_among_the_goods_of_the_top_list(self):
        wanted, result = route({"list": listing(goods=[good("o", "other"), FILE])})
        self.assertEqual(wanted, [("list", ROLES[3])])
        self.assertEqual(result, ("found", "list") + FOUND)

    def test_a_path_that_is_nowhere(self):
        for goods in [[], [good("o")], [good("p/p"), good("pp")]]:
            self.assertEqual(route({"list": listing(goods=goods)}), ([("list", ROLES[3])], ("none",)))

    def test_the_goods_come_before_the_grants(self):
        lists = {"list": listing(goods=[FILE], grants=[grant("a")]), "a": listing("a", goods=[good("p", "other")])}
        self.assertEqual(route(lists)[1], ("found", "list") + FOUND)
        self.assertEqual(names_of(lists), ["list"])

    def test_an_ended_search_wants_nothing(self):
        for lists in [{"list": listing(goods=[FILE], grants=[grant("a")])}, {"list": listing()}]:
            search = Search(charter(), shelf_of(["a"]), "p")
            search.give(lists["list"])
            self.assertIsNone(search.wanted())
            result = search.result()
            for document in [lists["list"], listing("a"), None]:
                with self.assertRaises(BadState):
                    search.give(document)
            self.assertEqual((search.wanted(), search.result()), (None, result))


class Grants(unittest.TestCase):
    def test_the_role_of_the_grant(self):
        lists = {
            "list": listing(grants=[grant("b", by=by(1)), grant("a", by=by(2))]),
            "a": listing("a", goods=[FILE]), "b": listing("b"),
        }
        self.assertEqual(
            route(lists), ([("list", ROLES[3]), ("b", by(1)), ("a", by(2))], ("found", "a") + FOUND)
        )

    def test_only_what_covers_the_path(self):
        lists = lists_of(
            list=[grant("a", ["q", "*/*"]), grant("b", ["q", "*p*"]), grant("c", ["p"]), grant("d", ["*q"])],
            a=[], b=[], c=[], d=[],
        )
        self.assertEqual(names_of(lists), ["list", "b", "c"])
        self.assertEqual(names_of(lists, "q"), ["list", "a", "b", "d"])
        self.assertEqual(names_of(lists, "x/y"), ["list", "a"])
        self.assertEqual(names_of(lists, "x/y/z"), ["list"])

    def test_a_list_whose_grant_covers_may_have_the_path_only_then(self):
        lists = {"list": listing(grants=[grant("a", ["q"])]), "a": listing("a", goods=[FILE])}
        self.assertEqual(route(lists)[1], ("none",))

    def test_what_a_list_grants_waits_before_all_that_waited(self):
        lists = lists_of(
            list=[grant("a"), grant("b")], a=[grant("c"), grant("d")], b=[], c=[grant("e")], d=[], e=[],
        )
        self.assertEqual(names_of(lists), ["list", "a", "c", "e", "d", "b"])

    def test_a_list_that_the_shelf_does_not_name(self):
        lists = lists_of(list=[grant("a"), grant("b")], a=[], b=[])
        self.assertEqual(names_of(lists, names=["b"]), ["list", "b"])
        self.assertEqual(names_of(lists, names=[]), ["list"])

    def test_a_list_that_waits_several_times(self):
        lists = lists_of(
            list=[grant("a", by=by(1)), grant("b", by=by(2)), grant("c", by=by(3))],
            a=[grant("c", by=by(4)), grant("b", by=by(5))], b=[], c=[grant("b", by=by(6))],
        )
        wanted = [("list", ROLES[3]), ("a", by(1)), ("c", by(4)), ("b", by(6))]
        self.assertEqual(route(lists), (wanted, ("none",)))

    def test_circles(self):
        lists = lists_of(list=[grant("a")], a=[grant("b")], b=[grant("a"), grant("c")], c=[grant("b"), grant("a")])
        self.assertEqual(names_of(lists), ["list", "a", "b", "c"])


class Last(unittest.TestCase):
    def test_the_grants_behind_do_not_wait(self):
        lists = lists_of(list=[grant("a"), grant("b", last=1), grant("c")], a=[], b=[], c=[])
        self.assertEqual(names_of(lists), ["list", "a", "b"])

    def test_what_waited_waits_no_more(self):
        lists = lists_of(
            list=[grant("a"), grant("b"), grant("c")], a=[grant("d"), grant("e", last=1), grant("f")],
            b=[], c=[], d=[], e=[], f=[],
        )
        self.assertEqual(names_of(lists), ["list", "a", "d", "e"])

    def test_what_waits_later_waits(self):
        lists = lists_of(list=[grant("a", last=1), grant("b")], a=[grant("c"), grant("b")], b=[], c=[])
        self.assertEqual(names_of(lists), ["list", "a", "c", "b"])

    def test_the_first_one_counts(self):
        lists = lists_of(list=[grant("a", last=1), grant("b", last=1), grant("c")], a=[], b=[], c=[])
        self.assertEqual(names_of(lists), ["list", "a"])

    def test_a_grant_that_does_not_cover_the_path(self):
        lists = lists_of(list=[grant("a"), grant("b", ["q"], last=1), grant("c")], a=[], b=[], c=[])
        self.assertEqual(names_of(lists), ["list", "a", "c"])

    def test_a_grant_for_a_list_that_the_shelf_does_not_name(self):
        lists = lists_of(list=[grant("a"), grant("b", last=1), grant("c")], a=[grant("d", last=1)], b=[], c=[], d=[])
        self.assertEqual(names_of(lists, names=["a", "c"]), ["list", "a", "c"])

    def test_a_grant_for_a_list_that_was_read(self):
        lists = lists_of(
            list=[grant("a"), grant("c")], a=[grant("b")], b=[grant("a", last=1), grant("d")], c=[], d=[],
        )
        self.assertEqual(names_of(lists), ["list", "a", "b", "d", "c"])

    def test_a_list_that_waits_already(self):
        lists = lists_of(list=[grant("a"), grant("b"), grant("c")], a=[grant("b", last=1)], b=[], c=[])
        self.assertEqual(names_of(lists), ["list", "a", "b"])

    def test_a_last_grant_that_is_skipped_later(self):
        # The grant for b held when the top list was read, although b is read below a before its turn comes.
        lists = lists_of(
            list=[grant("a"), grant("b", last=1), grant("c")], a=[grant("b")], b=[grant("d")], c=[], d=[],
        )
        self.assertEqual(names_of(lists), ["list", "a", "b", "d"])

    def test_a_path_found_below_the_last_grant(self):
        lists = lists_of(list=[grant("a", last=1), grant("b")], a=[grant("c")], b=[], c=[])
        lists["c"] = listing("c", goods=[FILE])
        lists["b"] = listing("b", goods=[good("p", "other")])
        self.assertEqual(route(lists)[1], ("found", "c") + FOUND)
        lists["c"] = listing("c")
        self.assertEqual(route(lists)[1], ("none",))


def letters(many):
    return ["".join(some) for some in itertools.islice(itertools.product("abcdefgh", repeat=2), many)]


def chain(many, found=None):
    """So many lists beside the top list, each one granted by the one before; one of them has the path."""
    names = ["list"] + letters(many)
    lists = {}
    for at, name in enumerate(names):
        goods = [FILE] if at == found else []
        grants = [grant(names[at + 1])] if at < many else []
        lists[name] = listing(name, goods=goods, grants=grants)
    return lists


class Most(unittest.TestCase):
    def test_so_many_lists_are_read(self):
        for many in [30, 31, 32, 40]:
            wanted, result = route(chain(many))
            with self.subTest(many):
                self.assertEqual(len(wanted), min(many + 1, MOST_LISTS))
                self.assertEqual(result, ("none",))

    def test_the_last_list_that_is_read(self):
        for many, found, told in [(31, 31, True), (32, 31, True), (40, 31, True), (40, 32, False), (40, 40, False)]:
            lists = chain(many, found)
            with self.subTest((many, found)):
                wanted, result = route(lists)
                self.assertEqual(result, ("found", letters(many)[30]) + FOUND if told else ("none",))
                self.assertEqual(len(wanted), MOST_LISTS)
                self.assertEqual(lookup(charter(), shelf_of(lists), lists, "p"), result)

    def test_a_broad_list(self):
        names = letters(32)
        lists = {name: listing(name) for name in names}
        lists["list"] = listing(grants=[grant(name) for name in names])
        wanted, result = route(lists)
        self.assertEqual([name for name, _ in wanted], ["list"] + names[:31])
        self.assertEqual(result, ("none",))


class Given(unittest.TestCase):
    def setUp(self):
        self.search = Search(charter(), shelf_of(["a", "b"]), "p")
        self.search.give(listing(grants=[grant("a"), grant("b")]))

    def test_a_list_with_another_name(self):
        for name in ["list", "b", "c"]:
            with self.assertRaises(BadState):
                self.search.give(listing(name))
        self.assert_untouched()

    def test_values_that_are_no_lists(self):
        for value in FOREIGN + [(), "a", ("list", "a"), list(listing("a")), listing("a")[:5], listing("a") + (0,),
                                listing("a", 0), listing("a", LATE + 1), listing("a", goods=[good("p"), good("p")]),
                                listing("a", grants=[grant("a")]), charter(), shelf_of(["a"]),
                                ("shelf",) + listing("a")[1:]]:
            with self.subTest(repr(value)), self.assertRaises(BadState):
                self.search.give(value)
        self.assert_untouched()

    def test_a_new_search(self):
        search = Search(charter(), shelf_of([]), "p")
        for value in [None, listing("a"), "list", charter()]:
            with self.assertRaises(BadState):
                search.give(value)
        self.assertEqual(search.wanted(), ("list", ROLES[3]))

    def assert_untouched(self):
        self.assertIsNone(self.search.result())
        self.assertEqual(self.search.wanted(), ("a", (1, ("k50",))))
        self.search.give(listing("a"))
        self.assertEqual(self.search.wanted(), ("b", (1, ("k50",))))


class Lookup(unittest.TestCase):
    def test_what_is_found(self):
        lists = lists_of(list=[grant("a"), grant("b")], a=[], b=[])
        self.assertEqual(lookup(charter(), shelf_of(lists), lists, "p"), ("none",))
        lists["b"] = listing("b", goods=[FILE])
        self.assertEqual(lookup(charter(), shelf_of(lists), lists, "p"), ("found", "b") + FOUND)
        self.assertEqual(lookup(charter(), shelf_of(["a"]), lists, "p"), ("none",))

    def test_a_list_that_the_dict_does_not_have(self):
        lists = lists_of(list=[grant("a"), grant("b")], a=[grant("c")], b=[], c=[])
        lists["b"] = listing("b", goods=[FILE])
        for name, told in [("list", "list"), ("a", "a"), ("c", "c"), ("b", "b")]:
            some = {other: lists[other] for other in lists if other != name}
            self.assertEqual(lookup(charter(), shelf_of(lists), some, "p"), ("missing", told))
        self.assertEqual(lookup(charter(), shelf_of(lists), {}, "p"), ("missing", "list"))

    def test_a_missing_list_that_is_not_wanted(self):
        lists = lists_of(list=[grant("a"), grant("b", last=1), grant("c")], a=[])
        lists["a"] = listing("a", goods=[FILE])
        self.assertEqual(lookup(charter(), shelf_of(["a", "b", "c"]), lists, "p"), ("found", "a") + FOUND)
        lists["list"] = listing(grants=[grant("b", ["q"]), grant("a")])
        self.assertEqual(lookup(charter(), shelf_of(["a", "b", "c"]), lists, "p"), ("found", "a") + FOUND)

    def test_nothing_is_modified(self):
        lists = chain(5, 4)
        before = copy.deepcopy(lists)
        lookup(charter(), shelf_of(lists), lists, "p")
        self.assertEqual(lists, before)


class Walk:
    """A search by recursion, written apart from the program: the lists that it reads, and what it finds."""

    def __init__(self, named, lists, path):
        self.named = named
        self.lists = lists
        self.path = path
        self.read = []
        self.found = ("none",)
        self.visit("list")

    def visit(self, name):
        """Read a list and what it leads to; return True if the search has ended."""
        self.read.append(name)
        document = self.lists[name]
        for path, length, told in document[4]:
            if path == self.path:
                self.found = ("found", name, length, told)
                return True
        if len(self.read) == 32:
            return True
        followed = [one for one in document[5]
                    if one[0] not in self.read and one[0] in self.named and covers(one, self.path)]
        ends = [at for at, one in enumerate(followed) if one[3] == 1]
        if ends:
            followed = followed[:ends[0] + 1]
        for one in followed:
            if one[0] not in self.read and self.visit(one[0]):
                return True
        return bool(ends)


class ManySearches(unittest.TestCase):
    def test_searches_by_another_way(self):
        chance = random.Random(11)
        seen = set()
        for _ in range(3000):
            names = letters(chance.choice([1, 2, 3, 4, 5, 6, 8]))
            lists = {}
            for name in names + ["list"]:
                others = [other for other in names if other != name]
                chance.shuffle(others)
                grants = [grant(other, chance.choice([["p"], ["*"], ["q"], ["q", "*p"]]), int(chance.random() < 0.2))
                          for other in others[:chance.randrange(5)]]
                goods = [FILE] if chance.random() < 0.1 else []
                lists[name] = listing(name, goods=goods, grants=grants)
            named = [name for name in lists if name == "list" or chance.random() < 0.9]
            walk = Walk(named, lists, "p")
            wanted, result = route(lists, names=named)
            self.assertEqual([name for name, _ in wanted], walk.read)
            self.assertEqual(result, walk.found)
            self.assertEqual(lookup(charter(), shelf_of(named), lists, "p"), walk.found)
            seen.add((len(wanted), result[0]))
        self.assertGreater(len(seen), 12)


if __name__ == "__main__":
    unittest.main()

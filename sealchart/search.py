"""Searching for the list that has a path (points 411 and 412)."""

from sealchart.documents import TOP_LIST, covers, entry_of, good_of, is_list
from sealchart.errors import BadState
from sealchart.limits import MOST_LISTS
from sealchart.trusted import role_of


class Search:
    """A search for one path in one snapshot, which is given the lists that it wants one by one."""

    def __init__(self, charter, shelf, path):
        self._shelf = shelf
        self._path = path
        # The lists to read next, as tuples (name, role); the first one is to be read first.
        self._waiting = [(TOP_LIST, role_of(charter, "list"))]
        # The names of the lists that were read.
        self._seen = {}
        self._result = None

    def wanted(self):
        """Return the tuple (name, role) of the list to be read next, or None if the search has ended."""
        if self._result is not None:
            return None
        return self._waiting[0]

    def give(self, document):
        """Read the wanted list."""
        if self._result is not None:
            raise BadState("the search has ended")
        name, _ = self._waiting[0]
        if not is_list(document) or document[1] != name:
            raise BadState("this is not the wanted list")
        self._seen[name] = True
        good = good_of(document, self._path)
        if good is not None:
            self._result = ("found", name) + good
            return
        self._follow(document[5])
        if self._waiting == [] or len(self._seen) >= MOST_LISTS:
            self._result = ("none",)

    def result(self):
        """Return ("found", name, length, digest) or ("none",), or None if the search has not ended."""
        return self._result

    def _follow(self, grants):
        """Let the grants wait before all that waits, and leave out what needs no reading any more."""
        waiting = []
        behind = self._waiting
        for grant in grants:
            if not self._leads_on(grant):
                continue
            name, role, _, last = grant
            waiting.append((name, role))
            if last == 1:
                behind = []
                break
        self._waiting = [row for row in waiting + behind if row[0] not in self._seen]

    def _leads_on(self, grant):
        name = grant[0]
        if name in self._seen or entry_of(self._shelf, name) is None:
            return False
        return covers(grant, self._path)


def lookup(charter, shelf, lists, path):
    """Return what a search finds in a dict of lists, or ("missing", name) for a list that is not there."""
    search = Search(charter, shelf, path)
    while search.wanted() is not None:
        name, _ = search.wanted()
        if name not in lists:
            return ("missing", name)
        search.give(lists[name])
    return search.result()

"""The client: a machine that asks for texts, checks them and installs files (points 502 to 510)."""

from sealchart.digests import digest
from sealchart.documents import (
    STAMP_NAME, TOP_LIST, entry_of, file_name, is_amount, name_of_charter, name_of_list, name_of_shelf, published_name,
)
from sealchart.errors import BadState, Refused
from sealchart.limits import MOST_CHARTER, MOST_STAMP, MOST_TURNS
from sealchart.names import is_path
from sealchart.search import Search
from sealchart.trusted import has_expired, role_of
from sealchart.vault import discard, load, store, store_file, store_list, stored_list


class Client:
    """A client over a disk: it wants one text after the other, until a refresh or a search has ended."""

    def __init__(self, disk, office, first):
        self._disk = disk
        self._trusted = load(office, disk, first)
        self._status = ("new",)
        # The tuple (name, most) of the wanted text, and its kind: charter, stamp, shelf, list or file.
        self._wanted = None
        self._kind = None
        # The time of the refresh, and how many charters it has accepted.
        self._time = 0
        self._turns = 0
        # The search that is under way, or None in a refresh.
        self._search = None
        self._path = None
        self._installs = False
        # The tuple (name, role) of the list that is wanted.
        self._needed = None

    def start(self, time):
        """Begin a refresh, and give up what is under way."""
        if not is_amount(time):
            raise BadState("this is not a time")
        self._time = time
        self._turns = 0
        self._search = None
        self._need_charter()

    def look(self, path):
        """Begin a search for a path."""
        self._begin_search(path, False)

    def install(self, path):
        """Begin a search for a path whose file is to be installed."""
        self._begin_search(path, True)

    def give(self, text):
        """Answer with the wanted text, or with None if there is none."""
        if self._wanted is None:
            raise BadState("no text is wanted")
        if text is None and self._kind == "charter":
            self._end_charters()
            return
        name, most = self._wanted
        try:
            self._accept(text, most)
        except Refused as refusal:
            self._fail(refusal.reason, name)
            return
        self._go_on()

    def wanted(self):
        """Return the tuple (name, most) of the wanted text, or None."""
        return self._wanted

    def status(self):
        """Return the status."""
        return self._status

    def versions(self):
        """Return the versions of the trusted charter, stamp and shelf; 0 for those that there are not."""
        trusted = self._trusted
        return (_version_of(trusted.charter()), _version_of(trusted.stamp()), _version_of(trusted.shelf()))

    def trusted(self):
        """Return the trusted set."""
        return self._trusted

    def _want(self, kind, name, most):
        self._kind = kind
        self._wanted = (name, most)
        self._status = ("busy",)

    def _end(self, status):
        self._wanted = None
        self._status = status

    def _fail(self, reason, name):
        self._end(("failed", reason, name))

    def _is_fresh(self, document):
        """Return True if the document has not expired; otherwise fail, and return False."""
        if has_expired(document, self._time):
            self._fail("expired", published_name(document))
            return False
        return True

    def _accept(self, text, most):
        """Accept and store the wanted text, or refuse it."""
        if text is None:
            raise Refused("missing")
        if not isinstance(text, str) or len(text) > most:
            raise Refused("length")
        if self._kind == "charter":
            self._trusted.accept_charter(text)
            store(self._disk, self._trusted, "charter")
        elif self._kind == "stamp":
            self._accept_stamp(text)
        elif self._kind == "shelf":
            self._trusted.accept_shelf(text)
            store(self._disk, self._trusted, "shelf")
        elif self._kind == "list":
            name, role = self._needed
            self._trusted.accept_list(name, text, role)
            store_list(self._disk, name, text)
        else:
            self._accept_file(text)

    def _accept_stamp(self, text):
        before = self._trusted.sealed("stamp")
        self._trusted.accept_stamp(text)
        if text != before:
            store(self._disk, self._trusted, "stamp")

    def _accept_file(self, text):
        _, _, length, told = self._search.result()
        if len(text) != length:
            raise Refused("length")
        if digest(text) != told:
            raise Refused("digest")
        store_file(self._disk, self._path, text)

    def _go_on(self):
        """Do what follows the text that was accepted."""
        if self._kind == "charter":
            self._turns += 1
            self._need_charter()
        elif self._kind == "stamp":
            if self._is_fresh(self._trusted.stamp()):
                self._need_shelf()
        elif self._kind == "shelf":
            self._need_shelf()
        elif self._kind == "list" and self._search is None:
            self._need_top_list()
        elif self._kind == "list":
            self._read_lists()
        else:
            self._end(self._found())

    def _need_charter(self):
        if self._turns == MOST_TURNS:
            self._end_charters()
            return
        version = self._trusted.charter()[1] + 1
        self._want("charter", name_of_charter(version), MOST_CHARTER)

    def _end_charters(self):
        trusted = self._trusted
        if not self._is_fresh(trusted.charter()):
            return
        if trusted.outdated():
            discard(self._disk)
            trusted.forget()
        self._want("stamp", STAMP_NAME, MOST_STAMP)

    def _need_shelf(self):
        trusted = self._trusted
        if not trusted.is_current():
            version, length, _ = trusted.stamp()[3]
            self._want("shelf", name_of_shelf(version), length)
        elif self._is_fresh(trusted.shelf()):
            self._need_top_list()

    def _need_top_list(self):
        trusted = self._trusted
        if self._has_list(TOP_LIST, role_of(trusted.charter(), "list")):
            self._end(("ready", trusted.shelf()[1]))

    def _has_list(self, name, role):
        """Return True if the trusted set has the list and it can be used; otherwise want it or fail."""
        document = self._list_at_hand(name, role)
        if document is not None:
            return self._is_fresh(document)
        version, length, _ = entry_of(self._trusted.shelf(), name)
        self._needed = (name, role)
        self._want("list", name_of_list(name, version), length)
        return False

    def _list_at_hand(self, name, role):
        """Return the list if it is trusted under the role, or stored so that it can be accepted, or None."""
        trusted = self._trusted
        if trusted.list_role(name) == role:
            return trusted.list_of(name)
        sealed = stored_list(self._disk, name)
        try:
            # Where none is stored, None is refused like a text that does not fit.
            return trusted.accept_list(name, sealed, role)
        except Refused:
            return None

    def _begin_search(self, path, installs):
        if self._status[0] not in ("ready", "found", "none"):
            raise BadState("a search is possible behind a refresh or a search only")
        if not is_path(path):
            raise BadState("this is not a path")
        trusted = self._trusted
        self._search = Search(trusted.charter(), trusted.shelf(), path)
        self._path = path
        self._installs = installs
        self._read_lists()

    def _read_lists(self):
        search = self._search
        while search.wanted() is not None:
            name, role = search.wanted()
            if not self._has_list(name, role):
                return
            search.give(self._trusted.list_of(name))
        self._end_search()

    def _end_search(self):
        result = self._search.result()
        if result == ("none",):
            self._end(("none", self._path))
        elif self._installs:
            _, _, length, told = result
            self._want("file", file_name(self._path, told), length)
        else:
            self._end(self._found())

    def _found(self):
        _, name, length, told = self._search.result()
        return ("found", self._path, name, length, told)


def _version_of(document):
    return 0 if document is None else document[1]

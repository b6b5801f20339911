"""The trusted set: what a client has accepted (points 400 to 410)."""

from sealchart.digests import digest
from sealchart.documents import entry_of, read
from sealchart.envelope import opened, support
from sealchart.errors import BadDocument, BadText, Refused

# The roles of a charter, in their order.
_ROLE_NAMES = ("charter", "stamp", "shelf", "list")


class Trusted:
    """A charter, and what was accepted under it: a stamp, a shelf and lists, as far as there are any."""

    def __init__(self, office, sealed):
        charter = _document_in("charter", sealed)
        _require_signed(office, sealed, role_of(charter, "charter"))
        self._office = office
        # From the kinds "charter", "stamp" and "shelf" to the document and to its sealed text.
        self._documents = {"charter": charter}
        self._sealed = {"charter": sealed}
        self._roles = None
        # From the name of a list to the document, the role that signed it, and its entry in the shelf.
        self._lists = {}

    def accept_charter(self, sealed):
        """Accept the next charter, and return it."""
        charter = _document_in("charter", sealed)
        before = self.charter()
        if charter[1] != before[1] + 1:
            raise Refused("version")
        _require_signed(self._office, sealed, role_of(before, "charter"))
        _require_signed(self._office, sealed, role_of(charter, "charter"))
        return self._keep("charter", charter, sealed)

    def accept_stamp(self, sealed):
        """Accept a stamp that is not older than the trusted one, and return it."""
        self._require_usable(sealed)
        stamp = _document_in("stamp", sealed)
        _require_signed(self._office, sealed, role_of(self.charter(), "stamp"))
        if self.stamp() is not None and _steps_back(self.stamp(), stamp):
            raise Refused("version")
        self._roles = self._present_roles()
        return self._keep("stamp", stamp, sealed)

    def accept_shelf(self, sealed):
        """Accept the shelf that the stamp names, and return it."""
        self._require_usable(sealed)
        if self.stamp() is None:
            raise Refused("missing")
        entry = self.stamp()[3]
        _require_sum(sealed, entry)
        shelf = _document_in("shelf", sealed)
        _require_signed(self._office, sealed, role_of(self.charter(), "shelf"))
        if shelf[1] != entry[0]:
            raise Refused("version")
        if self.shelf() is not None and _loses(self.shelf(), shelf):
            raise Refused("version")
        self._lists = {
            name: kept for name, kept in self._lists.items() if entry_of(shelf, name) == kept[2]
        }
        return self._keep("shelf", shelf, sealed)

    def accept_list(self, name, sealed, role):
        """Accept the list that the current shelf names, signed by the role, and return it."""
        self._require_usable(sealed)
        if not self.is_current():
            raise Refused("missing")
        entry = entry_of(self.shelf(), name)
        if entry is None:
            raise Refused("role")
        _require_sum(sealed, entry)
        document = _document_in("list", sealed)
        if document[1] != name:
            raise Refused("form")
        _require_signed(self._office, sealed, role)
        if document[2] != entry[0]:
            raise Refused("version")
        self._lists[name] = (document, role, entry)
        return document

    def restore_stamp(self, sealed, roles):
        """Take back a stamp that was accepted under these two roles, and return it."""
        stamp = _document_in("stamp", sealed)
        self._roles = roles
        return self._keep("stamp", stamp, sealed)

    def restore_shelf(self, sealed):
        """Take back a shelf that was accepted, and return it."""
        if self.stamp() is None:
            raise Refused("missing")
        return self._keep("shelf", _document_in("shelf", sealed), sealed)

    def outdated(self):
        """Return True if the stamp belongs to other roles than those of the charter, otherwise False."""
        return self.stamp() is not None and self._roles != self._present_roles()

    def forget(self):
        """Remove the stamp, the shelf and all lists."""
        self._documents = {"charter": self._documents["charter"]}
        self._sealed = {"charter": self._sealed["charter"]}
        self._roles = None
        self._lists = {}

    def is_current(self):
        """Return True if the shelf is the one that the stamp names, otherwise False."""
        if self.stamp() is None or self.shelf() is None:
            return False
        sealed = self._sealed["shelf"]
        return self.stamp()[3] == (self.shelf()[1], len(sealed), digest(sealed))

    def charter(self):
        """Return the trusted charter."""
        return self._documents["charter"]

    def stamp(self):
        """Return the trusted stamp, or None."""
        return self._documents.get("stamp")

    def shelf(self):
        """Return the trusted shelf, or None."""
        return self._documents.get("shelf")

    def list_of(self, name):
        """Return the kept list of this name, or None."""
        if name not in self._lists:
            return None
        return self._lists[name][0]

    def list_role(self, name):
        """Return the role under which the kept list of this name was accepted, or None."""
        if name not in self._lists:
            return None
        return self._lists[name][1]

    def sealed(self, kind):
        """Return the sealed text of the charter, the stamp or the shelf, or None."""
        return self._sealed.get(kind)

    def roles(self):
        """Return the roles stamp and shelf to which the stamp belongs, or None."""
        return self._roles

    def _present_roles(self):
        charter = self.charter()
        return (role_of(charter, "stamp"), role_of(charter, "shelf"))

    def _require_usable(self, sealed):
        # A value that is no string is refused for its form even where the set is outdated.
        if not isinstance(sealed, str):
            raise Refused("form")
        if self.outdated():
            raise Refused("role")

    def _keep(self, kind, document, sealed):
        self._documents[kind] = document
        self._sealed[kind] = sealed
        return document


def role_of(charter, name):
    """Return the role of this name of a charter."""
    return charter[3][_ROLE_NAMES.index(name)]


def has_expired(document, time):
    """Return True if the document has expired at the time, otherwise False."""
    # A list has its name before its version.
    expires = document[3] if document[0] == "list" else document[2]
    return expires <= time


def _document_in(kind, sealed):
    """Return the document of this kind in a sealed text, or refuse it for its form."""
    try:
        text, _ = opened(sealed)
        return read(kind, text)
    except (BadText, BadDocument):
        raise Refused("form")


def _require_signed(office, sealed, role):
    threshold, keys = role
    if support(office, sealed, keys) < threshold:
        raise Refused("seals")


def _require_sum(sealed, entry):
    """Refuse a sealed text that has not the length and the digest of the entry (version, length, digest)."""
    _, length, told = entry
    if len(sealed) != length:
        raise Refused("length")
    if digest(sealed) != told:
        raise Refused("digest")


def _steps_back(before, stamp):
    """Return True if the stamp may not follow the one before it, otherwise False."""
    if stamp[1] < before[1] or stamp[3][0] < before[3][0]:
        return True
    return stamp[1] == before[1] and stamp != before


def _loses(before, shelf):
    """Return True if a list of the shelf before is not in the shelf, or has a lesser version there."""
    for name, version, _, _ in before[3]:
        entry = entry_of(shelf, name)
        if entry is None or entry[0] < version:
            return True
    return False

"""The repository: the publisher of documents and files (points 600 to 606)."""

from sealchart.digests import digest
from sealchart.documents import TOP_LIST, file_name, is_amount, is_charter, published_name, write
from sealchart.draft import Draft
from sealchart.envelope import seal
from sealchart.errors import BadAct
from sealchart.texts import is_integer
from sealchart.trusted import role_of


class Workshop:
    """A publisher with all keys of its roles and grants, and everything that it published."""

    def __init__(self, office, roles, expires):
        _require_roles(roles)
        _require_expires(expires)
        self._office = office
        self._draft = Draft()
        # From published names to texts.
        self._texts = {}
        self._charters = []
        self._stamps = []
        # The tuples (shelf, lists) of all shelves, in order.
        self._snapshots = []
        # From the name of a list to its last publication: its document, its keys, and its row in a shelf.
        self._latest = {}
        # The row (version, length, digest) of the newest shelf in a stamp.
        self._entry = None
        self._publish_charter(("charter", 1, expires, roles), [])

    def turn(self, roles, expires):
        """Publish the next charter."""
        _require_roles(roles)
        _require_expires(expires)
        version = len(self._charters) + 1
        self._publish_charter(("charter", version, expires, roles), self._keys_of("charter"))

    def put(self, name, path, text):
        """Put a file into a list of the draft."""
        self._draft.put(name, path, text)

    def drop(self, name, path):
        """Remove a file from a list of the draft."""
        self._draft.drop(name, path)

    def grant(self, name, grant):
        """Append a grant to a list of the draft."""
        self._draft.grant(name, grant)

    def revoke(self, name, other):
        """Remove the grant for another list from a list of the draft."""
        self._draft.revoke(name, other)

    def publish(self, expires):
        """Publish the draft: the lists that have changed, the files, a shelf and a stamp."""
        _require_expires(expires)
        for name in self._draft.names():
            if self._has_changed(name, expires):
                self._publish_list(name, expires)
            self._publish_files(name)
        self._publish_shelf(expires)
        self._publish_stamp(expires)

    def renew(self, expires):
        """Publish a stamp that names the newest shelf."""
        _require_expires(expires)
        if self._entry is None:
            raise BadAct("absent")
        self._publish_stamp(expires)

    def text(self, name):
        """Return the published text of a name, or None."""
        return self._texts.get(name)

    def names(self):
        """Return the list of all published names in ascending order."""
        return sorted(self._texts)

    def first(self):
        """Return the sealed charter with version 1."""
        return self._texts[published_name(self._charters[0])]

    def stamps(self):
        """Return the list of all sealed stamps that were published, in order."""
        return list(self._stamps)

    def snapshot(self, version):
        """Return the tuple (shelf, lists) of the shelf with this version."""
        if not is_integer(version, 1, len(self._snapshots)):
            raise BadAct("absent")
        shelf, lists = self._snapshots[version - 1]
        return shelf, dict(lists)

    def charters(self):
        """Return the list of the charters, in order."""
        return list(self._charters)

    def _keys_of(self, role):
        """Return the keys of a role of the newest charter."""
        return list(role_of(self._charters[-1], role)[1])

    def _keys_of_list(self, name):
        if name == TOP_LIST:
            return self._keys_of("list")
        return self._draft.keys_of(name)

    def _issue(self, document, keys):
        """Publish a document that is signed by the keys, and return its sealed text."""
        sealed = seal(self._office, write(document), keys)
        self._texts[published_name(document)] = sealed
        return sealed

    def _publish_charter(self, charter, keys_before):
        self._charters.append(charter)
        self._issue(charter, keys_before + self._keys_of("charter"))

    def _has_changed(self, name, expires):
        if name not in self._latest:
            return True
        document, keys, _ = self._latest[name]
        if document[3] < expires or keys != self._keys_of_list(name):
            return True
        return document[4:] != (self._draft.goods_of(name), self._draft.grants_of(name))

    def _publish_list(self, name, expires):
        version = 1
        if name in self._latest:
            version = self._latest[name][0][2] + 1
        document = ("list", name, version, expires, self._draft.goods_of(name), self._draft.grants_of(name))
        keys = self._keys_of_list(name)
        sealed = self._issue(document, keys)
        self._latest[name] = (document, keys, (name, version, len(sealed), digest(sealed)))

    def _publish_files(self, name):
        for path, told, text in self._draft.texts_of(name):
            self._texts[file_name(path, told)] = text

    def _publish_shelf(self, expires):
        version = len(self._snapshots) + 1
        names = self._draft.names()
        shelf = ("shelf", version, expires, tuple([self._latest[name][2] for name in names]))
        sealed = self._issue(shelf, self._keys_of("shelf"))
        self._snapshots.append((shelf, {name: self._latest[name][0] for name in names}))
        self._entry = (version, len(sealed), digest(sealed))

    def _publish_stamp(self, expires):
        stamp = ("stamp", len(self._stamps) + 1, expires, self._entry)
        self._stamps.append(self._issue(stamp, self._keys_of("stamp")))


def _require_roles(roles):
    if not is_charter(("charter", 1, 0, roles)):
        raise BadAct("roles")


def _require_expires(expires):
    if not is_amount(expires):
        raise BadAct("expires")

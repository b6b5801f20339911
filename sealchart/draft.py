"""The draft of a repository: the lists as the next publication names them (point 603)."""

from sealchart.digests import digest
from sealchart.documents import TOP_LIST, is_grant
from sealchart.errors import BadAct
from sealchart.limits import MOST_GOODS, MOST_LISTS, MOST_SEALS, MOST_TEXT
from sealchart.names import is_path
from sealchart.texts import is_printable


class Draft:
    """The lists, beginning with the top list alone, their files and their grants."""

    def __init__(self):
        # From the name of a list to a dict from its paths to tuples (length, digest, text).
        self._files = {TOP_LIST: {}}
        # From the name of a list to its grants, in their order.
        self._grants = {TOP_LIST: []}
        # From the name of a list whose last grant was revoked to the keys that it had until then.
        self._old_keys = {}

    def put(self, name, path, text):
        """Put a file into a list, in place of the one with this path."""
        self._require_list(name)
        _require_path(path)
        if not is_printable(text) or len(text) > MOST_TEXT:
            raise BadAct("text")
        files = self._files[name]
        if path not in files and len(files) >= MOST_GOODS:
            raise BadAct("full")
        files[path] = (len(text), digest(text), text)

    def drop(self, name, path):
        """Remove a file from a list."""
        self._require_list(name)
        _require_path(path)
        if path not in self._files[name]:
            raise BadAct("absent")
        del self._files[name][path]

    def grant(self, name, grant):
        """Append a grant to a list."""
        self._require_list(name)
        if not is_grant(grant) or grant[0] == name or grant[0] in self._granted(name):
            raise BadAct("grant")
        self._require_room(grant)
        self._grants[name].append(grant)
        other = grant[0]
        if other not in self._files:
            self._files[other] = {}
            self._grants[other] = []

    def revoke(self, name, other):
        """Remove the grant for another list from a list."""
        self._require_list(name)
        if other not in self._granted(name):
            raise BadAct("absent")
        self._old_keys[other] = self.keys_of(other)
        self._grants[name] = [grant for grant in self._grants[name] if grant[0] != other]

    def names(self):
        """Return the names of the lists in ascending order."""
        return sorted(self._files)

    def goods_of(self, name):
        """Return the goods of a list as they stand in its document."""
        files = self._files[name]
        return tuple([(path, files[path][0], files[path][1]) for path in sorted(files)])

    def texts_of(self, name):
        """Return the files of a list as tuples (path, digest, text)."""
        files = self._files[name]
        return [(path, files[path][1], files[path][2]) for path in sorted(files)]

    def grants_of(self, name):
        """Return the grants of a list as they stand in its document."""
        return tuple(self._grants[name])

    def keys_of(self, name):
        """Return the keys of all grants for a list, in ascending order, each one once."""
        keys = self._granted_keys(name)
        if keys == []:
            return self._old_keys[name]
        return sorted(set(keys))

    def _granted(self, name):
        return [grant[0] for grant in self._grants[name]]

    def _granted_keys(self, name):
        """Return the keys of all grants for a list, with repetitions."""
        keys = []
        for grants in self._grants.values():
            for other, role, _, _ in grants:
                if other == name:
                    keys.extend(role[1])
        return keys

    def _require_list(self, name):
        if not isinstance(name, str) or name not in self._files:
            raise BadAct("list")

    def _require_room(self, grant):
        other, role, _, _ = grant
        # The grants of a list are for as many other lists, so they never become more than the lists may be.
        if other not in self._files and len(self._files) >= MOST_LISTS:
            raise BadAct("full")
        if len(set(self._granted_keys(other) + list(role[1]))) > MOST_SEALS:
            raise BadAct("full")


def _require_path(path):
    if not is_path(path):
        raise BadAct("path")

"""The disk, which may crash at any operation (point 500)."""

from sealchart.errors import DiskCrashed, DiskError


class Disk:
    """Named texts that are durable at once, until the disk crashes and behind its restart."""

    def __init__(self):
        self._texts = {}
        self._crashed = False
        # How many operations pass before the one that crashes, or None if the disk is not armed.
        self._left = None
        self._kept = False

    def put(self, name, text):
        """Store a text under a name."""
        self._require_running()
        if not isinstance(name, str) or name == "" or not isinstance(text, str):
            raise DiskError("a name of at least one character and a text are needed")
        if self._takes_effect():
            self._texts[name] = text
        self._require_running()

    def remove(self, name):
        """Remove the text of a name."""
        self._require_running()
        if not self._has(name):
            raise DiskError("there is no such text")
        if self._takes_effect():
            del self._texts[name]
        self._require_running()

    def read(self, name):
        """Return the text of a name, or None."""
        self._require_running()
        if not self._has(name):
            return None
        return self._texts[name]

    def names(self):
        """Return the list of the names in ascending order."""
        self._require_running()
        return sorted(self._texts)

    def arm(self, count, kept):
        """Let so many operations pass, and crash at the next one, which has its effect if kept is True."""
        if not self._crashed:
            self._left = count
            self._kept = kept

    def restart(self):
        """Run again, not armed."""
        self._crashed = False
        self._left = None

    def _has(self, name):
        return isinstance(name, str) and name in self._texts

    def _require_running(self):
        if self._crashed:
            raise DiskCrashed("the disk has crashed")

    def _takes_effect(self):
        """Count one operation, crash if it is its turn, and return True if the operation has its effect."""
        if self._left is None:
            return True
        if self._left > 0:
            self._left -= 1
            return True
        self._crashed = True
        return self._kept

"""The office that makes seals and knows which seals were made (points 200 and 201)."""

from sealchart.digests import digest
from sealchart.errors import BadKey, BadText
from sealchart.names import is_key
from sealchart.texts import is_printable


class Seals:
    """The office: which key signed which text."""

    def __init__(self):
        # From each pair of a key and a text that was signed to the mark of its seal.
        self._marks = {}

    def make(self, key, text):
        """Record that the key signed the text, and return the mark of the seal."""
        if not is_key(key):
            raise BadKey("only a key can sign")
        if not is_printable(text):
            raise BadText("only a printable string can be signed")
        mark = digest(key + " " + text)
        self._marks[(key, text)] = mark
        return mark

    def holds(self, key, text, mark):
        """Return True if the key signed this text with this mark, otherwise False."""
        # Values of other kinds may not serve as keys of a dict.
        if not isinstance(key, str) or not isinstance(text, str) or not isinstance(mark, str):
            return False
        return self._marks.get((key, text)) == mark

    def count(self):
        """Return the number of different pairs of key and text that were signed."""
        return len(self._marks)

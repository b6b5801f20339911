"""List names, keys, paths and patterns (points 108 and 109), and what a pattern matches (point 110)."""

from sealchart.limits import MOST_PATH

_LETTERS = "abcdefghijklmnopqrstuvwxyz"
_DIGITS = "0123456789"
_PART_MARKS = "abcdefghijklmnopqrstuvwxyz0123456789_-."

# The greatest length of a list name or a key.
_MOST_NAME = 12
# The greatest number of parts of a path or a pattern.
_MOST_PARTS = 6


def is_list_name(value):
    """Return True if the value is a list name, otherwise False."""
    if not isinstance(value, str) or not 1 <= len(value) <= _MOST_NAME:
        return False
    return _consists_of(value, _LETTERS)


def is_key(value):
    """Return True if the value is a key, otherwise False."""
    if not isinstance(value, str) or not 2 <= len(value) <= _MOST_NAME:
        return False
    return value[0] == "k" and _consists_of(value[1:], _DIGITS)


def is_path(value):
    """Return True if the value is a path, otherwise False."""
    return _has_parts_of(value, _PART_MARKS)


def is_pattern(value):
    """Return True if the value is a pattern, otherwise False."""
    return _has_parts_of(value, _PART_MARKS + "*")


def matches(pattern, path):
    """Return True if the pattern matches the path, otherwise False."""
    wanted = pattern.split("/")
    parts = path.split("/")
    if len(wanted) != len(parts):
        return False
    for piece, part in zip(wanted, parts):
        if not _part_matches(piece, part):
            return False
    return True


def ascends(names):
    """Return True if each string of the list is greater than the one before it, otherwise False."""
    return names == sorted(set(names))


def _consists_of(text, marks):
    return all(mark in marks for mark in text)


def _has_parts_of(value, marks):
    if not isinstance(value, str) or len(value) > MOST_PATH:
        return False
    parts = value.split("/")
    if len(parts) > _MOST_PARTS:
        return False
    return all(part != "" and _consists_of(part, marks) for part in parts)


def _part_matches(pattern, part):
    """Return True if the part is the pattern with each star replaced by some string."""
    if "*" not in pattern:
        return pattern == part
    first, *between, last = pattern.split("*")
    # In "aba" the beginning "ab" and the end "ba" overlap, and a star cannot stand between them.
    if len(part) < len(first) + len(last):
        return False
    if not part.startswith(first) or not part.endswith(last):
        return False
    return _stand_in_order(between, part[len(first):len(part) - len(last)])


def _stand_in_order(pieces, text):
    """Return True if the pieces stand in the text one behind the other, otherwise False."""
    rest = text
    for piece in pieces:
        # The first place leaves most room for the pieces behind, so no other place needs a try.
        at = rest.find(piece)
        if at < 0:
            return False
        rest = rest[at + len(piece):]
    return True

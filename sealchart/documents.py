"""Documents: charters, stamps, shelves and lists, what is asked of them, and published names (points 300 to 307)."""

from sealchart.digests import DIGEST_LENGTH
from sealchart.errors import BadDocument, BadText
from sealchart.limits import MOST_GOODS, MOST_KEYS, MOST_LISTS, MOST_NUMBER
from sealchart.names import ascends, is_key, is_list_name, is_path, is_pattern, matches
from sealchart.texts import decode, encode, is_integer

# The name of the list with which every search begins.
TOP_LIST = "list"
# The published name of every stamp.
STAMP_NAME = "stamp"

_DIGEST_MARKS = "0123456789abcdef"
# How many roles a charter has.
_ROLES = 4
# The greatest number of patterns of a grant.
_MOST_PATTERNS = 8


def is_role(value):
    """Return True if the value is a role, otherwise False."""
    if not _is_tuple_of(value, 2):
        return False
    threshold, keys = value
    if not _is_tuple_within(keys, 1, MOST_KEYS) or not all(is_key(key) for key in keys):
        return False
    return ascends(list(keys)) and is_integer(threshold, 1, len(keys))


def is_digest(value):
    """Return True if the value is a digest, otherwise False."""
    if not isinstance(value, str) or len(value) != DIGEST_LENGTH:
        return False
    return all(mark in _DIGEST_MARKS for mark in value)


def is_grant(value):
    """Return True if the value is a grant for some list, otherwise False."""
    if not _is_tuple_of(value, 4):
        return False
    name, role, patterns, last = value
    if not is_list_name(name) or name == TOP_LIST or not is_role(role):
        return False
    if not _is_tuple_within(patterns, 1, _MOST_PATTERNS) or not all(is_pattern(pattern) for pattern in patterns):
        return False
    return is_integer(last, 0, 1)


def is_charter(value):
    """Return True if the value is a charter, otherwise False."""
    if not _is_headed(value, "charter", 4):
        return False
    _, version, expires, roles = value
    if not _is_version(version) or not is_amount(expires):
        return False
    return _is_tuple_of(roles, _ROLES) and all(is_role(role) for role in roles)


def is_stamp(value):
    """Return True if the value is a stamp, otherwise False."""
    if not _is_headed(value, "stamp", 4):
        return False
    _, version, expires, shelf = value
    return _is_version(version) and is_amount(expires) and _is_entry(shelf)


def is_shelf(value):
    """Return True if the value is a shelf, otherwise False."""
    if not _is_headed(value, "shelf", 4):
        return False
    _, version, expires, lists = value
    if not _is_version(version) or not is_amount(expires):
        return False
    if not _is_tuple_within(lists, 1, MOST_LISTS) or not all(_is_named_entry(row) for row in lists):
        return False
    names = [row[0] for row in lists]
    return ascends(names) and TOP_LIST in names


def is_list(value):
    """Return True if the value is a list, otherwise False."""
    if not _is_headed(value, "list", 6):
        return False
    _, name, version, expires, goods, grants = value
    if not is_list_name(name) or not _is_version(version) or not is_amount(expires):
        return False
    if not _is_tuple_within(goods, 0, MOST_GOODS) or not all(_is_good(good) for good in goods):
        return False
    if not _is_tuple_within(grants, 0, MOST_LISTS) or not all(is_grant(grant) for grant in grants):
        return False
    granted = [grant[0] for grant in grants]
    return ascends([good[0] for good in goods]) and ascends(sorted(granted)) and name not in granted


def is_amount(value):
    """Return True if the value is an expiry time or a length, otherwise False."""
    return is_integer(value, 0, MOST_NUMBER)


def read(kind, text):
    """Return the document of this kind whose text is the given one, or raise BadDocument."""
    try:
        value = decode(text)
    except BadText:
        raise BadDocument("the text is not canonical")
    if not _is_document(kind, value):
        raise BadDocument("the text is not one of such a document")
    return value


def write(document):
    """Return the text of a document, or raise BadDocument."""
    _require_document(document)
    # What a document may hold at most is far from being too deep or too long for a canonical text.
    return encode(document)


def covers(grant, path):
    """Return True if one of the patterns of the grant matches the path, otherwise False."""
    _, _, patterns, _ = grant
    return any(matches(pattern, path) for pattern in patterns)


def good_of(document, path):
    """Return the tuple (length, digest) of a path in the goods of a list, or None."""
    return _behind_name(document[4], path)


def entry_of(document, name):
    """Return the tuple (version, length, digest) of a list in a shelf, or None."""
    return _behind_name(document[3], name)


def published_name(document):
    """Return the published name of a document, or raise BadDocument."""
    _require_document(document)
    if document[0] == "charter":
        return name_of_charter(document[1])
    if document[0] == "stamp":
        return STAMP_NAME
    if document[0] == "shelf":
        return name_of_shelf(document[1])
    return name_of_list(document[1], document[2])


def name_of_charter(version):
    """Return the published name of the charter with this version."""
    return f"{version}.charter"


def name_of_shelf(version):
    """Return the published name of the shelf with this version."""
    return f"{version}.shelf"


def name_of_list(name, version):
    """Return the published name of a version of the list of this name."""
    return f"{version}.{name}.list"


def file_name(path, digest):
    """Return the published name of a file."""
    return f"{digest}.{path}"


def _is_tuple_of(value, many):
    return isinstance(value, tuple) and len(value) == many


def _is_tuple_within(value, least, most):
    return isinstance(value, tuple) and least <= len(value) <= most


def _is_headed(value, word, many):
    """Return True if the value is a tuple of so many items, and the word is the first one."""
    if not _is_tuple_of(value, many):
        return False
    return isinstance(value[0], str) and value[0] == word


def _is_version(value):
    return is_integer(value, 1, MOST_NUMBER)


def _is_entry(value):
    """Return True if the value is a tuple (version, length, digest)."""
    return _is_tuple_of(value, 3) and _is_version(value[0]) and is_amount(value[1]) and is_digest(value[2])


def _is_named_entry(value):
    return _is_tuple_of(value, 4) and is_list_name(value[0]) and _is_entry(value[1:])


def _is_good(value):
    return _is_tuple_of(value, 3) and is_path(value[0]) and is_amount(value[1]) and is_digest(value[2])


def _is_document(kind, value):
    if kind == "charter":
        return is_charter(value)
    if kind == "stamp":
        return is_stamp(value)
    if kind == "shelf":
        return is_shelf(value)
    return kind == "list" and is_list(value)


def _require_document(value):
    if not is_charter(value) and not is_stamp(value) and not is_shelf(value) and not is_list(value):
        raise BadDocument("the value is not a document")


def _behind_name(rows, name):
    """Return what stands behind the name in the row that begins with it, or None."""
    for row in rows:
        if row[0] == name:
            return row[1:]
    return None

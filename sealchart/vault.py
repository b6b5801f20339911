"""What a client stores on its disk, and how it comes back from there (points 501 and 502)."""

from sealchart.documents import is_role
from sealchart.errors import BadState, BadText, Refused
from sealchart.texts import decode, encode
from sealchart.trusted import Trusted


def load(office, disk, first):
    """Return the trusted set of what is stored, or of the first charter, or raise BadState."""
    charter = disk.read("charter")
    if charter is None:
        charter = first
    try:
        trusted = Trusted(office, charter)
        _restore(trusted, disk)
    except (Refused, BadText):
        raise BadState("a stored text or the first charter cannot be used")
    return trusted


def store(disk, trusted, kind):
    """Store the charter, the stamp or the shelf of a trusted set."""
    text = trusted.sealed(kind)
    if kind == "stamp":
        text = encode((text, trusted.roles()))
    disk.put(kind, text)


def discard(disk):
    """Remove the stored shelf and then the stored stamp, as far as there are such texts."""
    # With the stamp gone first, a crash could leave a shelf that belongs to a stamp of other roles.
    for name in ("shelf", "stamp"):
        if disk.read(name) is not None:
            disk.remove(name)


def stored_list(disk, name):
    """Return the stored sealed list of this name, or None."""
    return disk.read("list." + name)


def store_list(disk, name, sealed):
    """Store the sealed list of this name."""
    disk.put("list." + name, sealed)


def store_file(disk, path, text):
    """Store an installed file."""
    disk.put("file." + path, text)


def _restore(trusted, disk):
    stamp = disk.read("stamp")
    if stamp is None:
        return
    sealed, roles = _stamp_and_roles(stamp)
    trusted.restore_stamp(sealed, roles)
    shelf = disk.read("shelf")
    if shelf is not None:
        trusted.restore_shelf(shelf)


def _stamp_and_roles(text):
    """Return the sealed stamp and the pair of its roles in a stored text, or raise BadText."""
    value = decode(text)
    if not _is_pair(value) or not _is_pair(value[1]):
        raise BadText("this is not a stamp with its roles")
    sealed, roles = value
    if not all(is_role(role) for role in roles):
        raise BadText("the roles of the stamp are no roles")
    return sealed, roles


def _is_pair(value):
    return isinstance(value, tuple) and len(value) == 2

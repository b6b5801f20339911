"""What several tests build upon: roles, documents, sealed texts, wrong values, and mirrors."""

from sealchart.digests import digest
from sealchart.documents import write
from sealchart.envelope import opened, seal
from sealchart.texts import decode, encode
from sealchart.trusted import role_of

SUM = "0123456789abcdef01"
LATE = 10 ** 12

# No value of these kinds stands anywhere in a document.
FOREIGN = [None, True, False, -1, 10 ** 12 + 1, 1.5, b"", b"list", [], {}, {"a": 1}, {1}, object(), len, str, "\n",
           "\u00e9", chr(37)]


def role(threshold, *keys):
    return (threshold, tuple(sorted(keys)))


def keys(first, many):
    """So many keys with three digits each, which ascend."""
    return tuple("k" + str(number) for number in range(first, first + many))


ROLES = (role(2, "k10", "k11", "k12"), role(1, "k20", "k21"), role(2, "k30", "k31", "k32"), role(1, "k40", "k41"))
OTHER_ROLES = (role(2, "k15", "k16", "k17"), role(2, "k25", "k26"), role(1, "k35"), role(2, "k45", "k46"))


def charter(version=1, expires=1000, roles=ROLES):
    return ("charter", version, expires, roles)


def entry(sealed, version):
    return (version, len(sealed), digest(sealed))


def stamp(version, sealed, shelf_version, expires=1000):
    """A stamp that names the sealed shelf with this version."""
    return ("stamp", version, expires, entry(sealed, shelf_version))


def shelf(version, rows, expires=1000):
    """A shelf of a dict from names to entries."""
    return ("shelf", version, expires, tuple((name,) + rows[name] for name in sorted(rows)))


def good(path, text="text"):
    return (path, len(text), digest(text))


def listing(name="list", version=1, expires=1000, goods=(), grants=()):
    return ("list", name, version, expires, tuple(goods), tuple(grants))


def grant(name, patterns=("*",), last=0, by=(1, ("k50",))):
    return (name, by, tuple(patterns), last)


def signed(office, document, *roles):
    """The sealed text of a document, signed by all keys of the roles."""
    return seal(office, write(document), [key for one in roles for key in one[1]])


def signed_by(office, document, *some):
    """The sealed text of a document, signed by these keys alone."""
    return seal(office, write(document), list(some))


def of(document, name):
    return role_of(document, name)


def content(sealed):
    """The document in a sealed text, whatever it is."""
    return decode(opened(sealed)[0])


def padded(sealed, length):
    """A string that begins like the sealed text and has this length."""
    return (sealed + " " * length)[:length]


def swapped(sealed):
    """The sealed text with two unlike characters beside each other swapped."""
    for at in range(len(sealed) - 1):
        if sealed[at] != sealed[at + 1]:
            return sealed[:at] + sealed[at + 1] + sealed[at] + sealed[at + 2:]
    raise AssertionError(sealed)


def replaced(value, worth):
    """Each value that the tuple becomes if one value in it, at any depth, is replaced by the given one."""
    if isinstance(value, tuple):
        for at, part in enumerate(value):
            yield value[:at] + (worth,) + value[at + 1:]
            for inner in replaced(part, worth):
                yield value[:at] + (inner,) + value[at + 1:]


def reshaped(value):
    """Each value that the tuple becomes if one part, at any depth, is given in another kind, or cut, or doubled."""
    if isinstance(value, tuple):
        yield list(value)
        yield value + (value,)
        for at, part in enumerate(value):
            for inner in reshaped(part):
                yield value[:at] + (inner,) + value[at + 1:]
    elif isinstance(value, str):
        yield value.encode("ascii")
        yield list(value)
        yield (value,)
    else:
        yield str(value)
        yield float(value)
        yield (value,)
        yield [value]


def unsealed(document):
    """The sealed text of any plain value, without seals."""
    return encode((encode(document), ()))


def foreign_texts(office, kind):
    """Strings that are no sealed text of a document of this kind, signed as they may be."""
    every = {
        "charter": charter(), "stamp": ("stamp", 1, 9, (1, 2, SUM)), "shelf": ("shelf", 1, 9, (("list", 1, 2, SUM),)),
        "list": listing(),
    }
    many = [key for one in ROLES for key in one[1]]
    texts = ["", "a", "0.", "[]", "[1:a[]]", "[[][]]", encode(("a", (("k1", "m"),))), seal(office, "", many)]
    texts += [seal(office, write(document), many) for other, document in every.items() if other != kind]
    own = every[kind]
    for wrong in [own[:-1], own + (0,), (kind,), (own,), (kind, 0) + own[2:], own[1:]]:
        texts.append(seal(office, encode(wrong), many))
    texts.append(write(own))
    texts.append(seal(office, write(own), many) + " ")
    texts.append(seal(office, write(own) + " ", many))
    return texts


NO_STRINGS = [None, True, 0, 1, b"", b"[]", [], ["a"], (), ("a",), {}, object(), 1.5]


class Mirror:
    """A mirror that hands out what a workshop published, and notes what it was asked for."""

    def __init__(self, workshop, instead=None):
        self.workshop = workshop
        # From published names to what is handed out in place of the published text.
        self.instead = instead if instead is not None else {}
        self.asked = []

    def answer(self, wanted):
        self.asked.append(wanted)
        name, _ = wanted
        if name in self.instead:
            return self.instead[name]
        return self.workshop.text(name)


def serve(client, mirror, most=1000):
    """Give the client what it wants until it wants nothing more, and return its status."""
    for _ in range(most):
        wanted = client.wanted()
        if wanted is None:
            break
        client.give(mirror.answer(wanted))
    return client.status()


def refresh(client, mirror, time=0):
    client.start(time)
    return serve(client, mirror)


def answers(trusted, names=("list", "a", "b", "c", "d")):
    """Everything that a trusted set tells."""
    return (
        trusted.charter(), trusted.stamp(), trusted.shelf(), trusted.outdated(), trusted.is_current(), trusted.roles(),
        tuple(trusted.sealed(kind) for kind in ("charter", "stamp", "shelf")),
        tuple((name, trusted.list_of(name), trusted.list_role(name)) for name in names),
    )


def stored(disk):
    return {name: disk.read(name) for name in disk.names()}

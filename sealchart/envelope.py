"""Sealed texts (point 202) and their support (point 203)."""

from sealchart.digests import DIGEST_LENGTH
from sealchart.errors import BadKey, BadText
from sealchart.limits import MOST_SEALS
from sealchart.names import ascends, is_key
from sealchart.texts import decode, encode, is_printable

# The greatest length of a mark in a sealed text.
_MOST_MARK = 40


def seal(office, text, keys):
    """Make seals of the text with all keys, and return the sealed text."""
    different = _different_keys(keys)
    if not is_printable(text):
        raise BadText("only a printable string can be sealed")
    # All marks that are made have one length, so this fails before a seal is made, not after it.
    blank = "0" * DIGEST_LENGTH
    encode((text, tuple([(key, blank) for key in different])))
    return encode((text, tuple([(key, office.make(key, text)) for key in different])))


def opened(sealed):
    """Return the tuple (text, seals) of a sealed text, or raise BadText."""
    value = decode(sealed)
    if not _is_content(value):
        raise BadText("this is not a sealed text")
    return value


def support(office, sealed, keys):
    """Return how many seals of a sealed text are of these keys and held by the office."""
    text, seals = opened(sealed)
    return sum(1 for key, mark in seals if key in keys and office.holds(key, text, mark))


def _different_keys(keys):
    """Return the keys in ascending order, each one once."""
    if not all(is_key(key) for key in keys):
        raise BadKey("one of the keys is not a key")
    different = sorted(set(keys))
    if len(different) > MOST_SEALS:
        raise BadKey("there are too many keys")
    return different


def _is_content(value):
    if not isinstance(value, tuple) or len(value) != 2:
        return False
    text, seals = value
    if not isinstance(text, str) or not isinstance(seals, tuple) or len(seals) > MOST_SEALS:
        return False
    if not all(_is_seal(pair) for pair in seals):
        return False
    return ascends([key for key, _ in seals])


def _is_seal(value):
    if not isinstance(value, tuple) or len(value) != 2:
        return False
    key, mark = value
    return is_key(key) and isinstance(mark, str) and len(mark) <= _MOST_MARK

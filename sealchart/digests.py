"""The digest of a string (point 111)."""

# How many characters a digest has.
DIGEST_LENGTH = 18

_FACTOR = 65599
_DIVISOR = 2361183241434822606617


def digest(text):
    """Return the digest of a string."""
    number = len(text) + 1
    for mark in text:
        number = (number * _FACTOR + ord(mark)) % _DIVISOR
    digits = f"{number:x}"
    return digits.zfill(DIGEST_LENGTH)

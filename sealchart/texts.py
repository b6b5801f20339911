"""Printable strings, integers within bounds (point 101) and canonical texts (points 105 to 107)."""

from sealchart.errors import BadText
from sealchart.limits import MOST_DEPTH, MOST_DIGITS, MOST_TEXT

# The code of the one character between the space and the tilde that is not printable.
_BARRED_CODE = 37


def is_printable(value):
    """Return True if the value is a string of printable characters, otherwise False."""
    if not isinstance(value, str):
        return False
    return all(" " <= mark <= "~" and ord(mark) != _BARRED_CODE for mark in value)


def is_integer(value, least, greatest):
    """Return True if the value is an integer from least to greatest, otherwise False."""
    if not isinstance(value, int) or isinstance(value, bool):
        return False
    return least <= value <= greatest


def encode(value):
    """Return the canonical text of a plain value, or raise BadText."""
    text = _text_of(value, MOST_DEPTH)
    if len(text) > MOST_TEXT:
        raise BadText("the text is too long")
    return text


def decode(text):
    """Return the value whose canonical text this is, or raise BadText."""
    if not isinstance(text, str) or len(text) > MOST_TEXT:
        raise BadText("this is not a string, or it is too long")
    # Every canonical text is printable, so the strings in it need no look of their own.
    if not is_printable(text):
        raise BadText("the text is not printable")
    value, end = _value_at(text, 0, MOST_DEPTH)
    if end != len(text):
        raise BadText("the text goes on behind its value")
    return value


def _text_of(value, levels):
    """Return the text of a value in which tuples are nested at most so many levels deep."""
    if isinstance(value, tuple):
        return _tuple_text(value, levels)
    if is_printable(value):
        return str(len(value)) + ":" + value
    if is_integer(value, 0, _greatest_integer()):
        return str(value) + "."
    raise BadText("the value is not plain")


def _tuple_text(parts, levels):
    if levels == 0:
        raise BadText("the value is nested too deeply")
    texts = []
    length = len("[]")
    for part in parts:
        text = _text_of(part, levels - 1)
        length += len(text)
        # Stopping here keeps the work small if one tuple stands in many places of the value.
        if length > MOST_TEXT:
            raise BadText("the text is too long")
        texts.append(text)
    return "[" + "".join(texts) + "]"


def _greatest_integer():
    return int("9" * MOST_DIGITS)


def _value_at(text, start, levels):
    """Return the value whose text begins at start, and the place behind it."""
    if text[start:start + 1] == "[":
        return _tuple_at(text, start + 1, levels)
    end = _end_of_digits(text, start)
    number = _number_of(text[start:end])
    sign = text[end:end + 1]
    if sign == ".":
        return number, end + 1
    if sign == ":":
        return _string_at(text, end + 1, number)
    raise BadText("a number is followed by neither a dot nor a colon")


def _tuple_at(text, start, levels):
    if levels == 0:
        raise BadText("the text is nested too deeply")
    parts = []
    at = start
    while text[at:at + 1] != "]":
        part, at = _value_at(text, at, levels - 1)
        parts.append(part)
    return tuple(parts), at + 1


def _string_at(text, start, length):
    end = start + length
    if end > len(text):
        raise BadText("a string is cut off")
    return text[start:end], end


def _end_of_digits(text, start):
    end = start
    while "0" <= text[end:end + 1] <= "9":
        end += 1
    return end


def _number_of(digits):
    # A run that is too long is not given to int, which raises an error of its own for it.
    if digits == "" or len(digits) > MOST_DIGITS:
        raise BadText("a number has no digits, or too many of them")
    if digits[0] == "0" and digits != "0":
        raise BadText("a number has a leading zero")
    return int(digits)

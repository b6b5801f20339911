"""The limits of the program (point 103) and the reasons of a refusal (point 104)."""

# The greatest version, time, length or threshold.
MOST_NUMBER = 10 ** 12
# The greatest number of digits of an integer in a canonical text.
MOST_DIGITS = 20
# The greatest nesting depth of a canonical text.
MOST_DEPTH = 8
# The greatest length of a canonical text.
MOST_TEXT = 100000
# The greatest number of keys of a role.
MOST_KEYS = 16
# The greatest number of seals of a sealed text.
MOST_SEALS = 32
# The greatest number of files in a list.
MOST_GOODS = 64
# The greatest length of a sealed charter.
MOST_CHARTER = 4000
# The greatest length of a sealed stamp.
MOST_STAMP = 2000
# The greatest number of lists in a shelf, and of lists that one search reads.
MOST_LISTS = 32
# The greatest number of charters that one refresh accepts.
MOST_TURNS = 16
# The greatest length of a path or a pattern.
MOST_PATH = 60

REASONS = ("form", "seals", "version", "length", "digest", "role", "expired", "missing")

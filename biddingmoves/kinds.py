"""What a value is: an integer, a letter, a fraction, a part.

Any value may be asked about. What it is is found by its class alone before
anything else is done with it, for an object may answer == and len as it likes.
"""

from math import gcd

from biddingmoves.limits import MOST_BOTTOM

_DIGITS = "0123456789"

# Python itself refuses to read numbers that are a little longer than this.
_MOST_DIGITS = 4000


def is_integer(value):
    """Whether it is an integer; True and False are none."""
    return type(value) == int


def is_string(value):
    """Whether it is a string."""
    return type(value) == str


def is_row(value):
    """Whether it is a tuple; a list is not taken for one."""
    return type(value) == tuple


def is_letter(value):
    """Whether it is a letter from a to z."""
    return is_string(value) and len(value) == 1 and "a" <= value <= "z"


def is_fraction(value):
    """Whether it is a fraction in lowest terms."""
    if not is_row(value) or len(value) != 2:
        return False
    top, bottom = value
    if not is_integer(top) or not is_integer(bottom):
        return False
    return bottom > 0 and gcd(top, bottom) == 1


def is_share(value):
    """Whether it is a fraction from 0 to 1."""
    return is_fraction(value) and 0 <= value[0] <= value[1]


def is_part(value):
    """Whether it is a part."""
    return is_share(value) and value[1] <= MOST_BOTTOM


def is_ascending(values):
    """Whether each of them is greater than the one ahead of it."""
    return all([values[k] < values[k + 1] for k in range(len(values) - 1)])


def is_numeral(word):
    """Whether the word is an integer from 0 on as str writes it."""
    if word == "" or len(word) > _MOST_DIGITS:
        return False
    if word[0] == "0" and word != "0":
        return False
    return all([sign in _DIGITS for sign in word])


def pair_in(word):
    """The pair (n, d) that is written as n/d, None if there is none."""
    top, _, bottom = word.partition("/")
    if not is_numeral(top) or not is_numeral(bottom):
        return None
    return int(top), int(bottom)

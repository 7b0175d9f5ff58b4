"""What a value is: an integer, a letter, a fraction, a part; and how fractions are reckoned with.

Any value may be asked about. What it is is found by its class alone before
anything else is done with it, for an object may answer == and len as it likes.
"""

from math import gcd

from biddingmoves.errors import InvalidNumber, InvalidShare, InvalidSide
from biddingmoves.limits import MOST_BOTTOM, MOST_MOVES

_DIGITS = "0123456789"
_SIDES = ("first", "second")

# Python itself refuses to read numbers that are a little longer than this.
_MOST_DIGITS = 4000


def is_integer(value):
    """Whether it is an integer; True and False are none."""
    return type(value) is int


def is_string(value):
    """Whether it is a string."""
    return type(value) is str


def is_row(value):
    """Whether it is a tuple; a list is not taken for one."""
    return type(value) is tuple


def is_letter(value):
    """Whether it is a letter from a to z."""
    return is_string(value) and len(value) == 1 and "a" <= value <= "z"


def is_one_of(value, words):
    """Whether it is one of these strings."""
    return is_string(value) and value in words


def has_form(value, forms):
    """Whether it is a tuple that begins with the word and has the length of one of these pairs."""
    if not is_row(value) or len(value) == 0 or not is_string(value[0]):
        return False
    return (value[0], len(value)) in forms


def is_fraction(value):
    """Whether it is a fraction in lowest terms."""
    if not is_row(value) or len(value) != 2:
        return False
    top, bottom = value
    if not is_integer(top) or not is_integer(bottom):
        return False
    return bottom > 0 and gcd(top, bottom) == 1


def is_share(value):
    """Whether it is a fraction from 0 to 1."""
    return is_fraction(value) and 0 <= value[0] <= value[1]


def is_part(value):
    """Whether it is a part."""
    return is_share(value) and value[1] <= MOST_BOTTOM


def is_moves(value):
    """Whether it is a number of moves."""
    return is_integer(value) and 0 <= value <= MOST_MOVES


def is_ascending(values):
    """Whether each of them is greater than the one ahead of it."""
    return all([values[k] < values[k + 1] for k in range(len(values) - 1)])


def is_numeral(word):
    """Whether the word is an integer from 0 on as str writes it."""
    if word == "" or len(word) > _MOST_DIGITS:
        return False
    if word[0] == "0" and word != "0":
        return False
    return all([sign in _DIGITS for sign in word])


def pair_in(word):
    """The pair (n, d) that is written as n/d, None if there is none."""
    top, _, bottom = word.partition("/")
    if not is_numeral(top) or not is_numeral(bottom):
        return None
    return int(top), int(bottom)


def written(fraction):
    """The fraction as n/d."""
    top, bottom = fraction
    return f"{top}/{bottom}"


def lowest(top, bottom):
    """The fraction top / bottom in lowest terms; the bottom is from 1 on."""
    shared = gcd(top, bottom)
    return top // shared, bottom // shared


def is_below(one, other):
    """Whether the one fraction is less than the other one."""
    return one[0] * other[1] < other[0] * one[1]


def difference(one, other):
    """The one fraction less the other one."""
    return lowest(one[0] * other[1] - other[0] * one[1], one[1] * other[1])


def total(one, other):
    """Both fractions together."""
    return lowest(one[0] * other[1] + other[0] * one[1], one[1] * other[1])


def check_share(share):
    """Raises the error of a wrong share."""
    if not is_share(share):
        raise InvalidShare(share)


def check_side(side):
    """Raises the error of a wrong side."""
    if not is_one_of(side, _SIDES):
        raise InvalidSide(side)


def check_moves(moves):
    """Raises the error of a wrong number of moves."""
    if not is_moves(moves):
        raise InvalidNumber(moves)

"""The limits of webs, moves and numbers."""

MOST_PLACES = 10
MOST_MOVES = 60
MOST_BOTTOM = 10 ** 12
MOST_BITS = 20

"""The uses and assignments of blocks, and the limits of a stadium."""

EMPTY = 0
ANY_USE = 0

# As a use and as an assignment these two sides bear the same number.
HOME = 1
AWAY = 2

CLOSED = 3

MOST_SEATS = 99
MOST_BLOCKS = 6

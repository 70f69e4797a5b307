"""The operations that change a stadium.

Each answers a list: what the operation returns, or a refusal alone.
"""

from standblocks.allocations import count_sold, find_best
from standblocks.refusals import ALREADY_ADJACENT, NO_ALLOCATION, NO_SUCH_BLOCK
from standblocks.refusals import NOTHING_TO_REMOVE, OUT_OF_RANGE, TOO_MANY_BLOCKS
from standblocks.terms import ANY_USE, AWAY, CLOSED, EMPTY, HOME, MOST_BLOCKS, MOST_SEATS


def add_block(stadium, seats):
    """Add a block for any use without neighbors; answer its number."""
    if seats > MOST_SEATS:
        return [OUT_OF_RANGE]
    if stadium.block_count() >= MOST_BLOCKS:
        return [TOO_MANY_BLOCKS]
    stadium.seats.append(seats)
    stadium.assignments.append(ANY_USE)
    return [stadium.block_count() - 1]


def remove_last_block(stadium):
    """Remove the block with the highest number; answer how many are left."""
    if stadium.block_count() == 0:
        return [NOTHING_TO_REMOVE]
    stadium.seats.pop()
    stadium.assignments.pop()
    removed = stadium.block_count()
    # No block has a higher number, so the removed one can only be second in a pair.
    stadium.pairs = [pair for pair in stadium.pairs if pair[1] != removed]
    return [stadium.block_count()]


def set_seats(stadium, block, seats):
    """Set the seats of a block; answer how many it had."""
    if not stadium.has_block(block):
        return [NO_SUCH_BLOCK]
    if seats > MOST_SEATS:
        return [OUT_OF_RANGE]
    previous = stadium.seats[block]
    stadium.seats[block] = seats
    return [previous]


def assign(stadium, block, assignment):
    """Set the assignment of a block; answer the one it had."""
    if not stadium.has_block(block):
        return [NO_SUCH_BLOCK]
    if assignment > CLOSED:
        return [OUT_OF_RANGE]
    previous = stadium.assignments[block]
    stadium.assignments[block] = assignment
    return [previous]


def connect(stadium, i, j):
    """Make two blocks adjacent; answer how many adjacent pairs there are."""
    if not (stadium.has_block(i) and stadium.has_block(j)):
        return [NO_SUCH_BLOCK]
    if i == j:
        return [OUT_OF_RANGE]
    if stadium.are_adjacent(i, j):
        return [ALREADY_ADJACENT]
    stadium.pairs.append((min(i, j), max(i, j)))
    return [len(stadium.pairs)]


def disconnect(stadium, i, j):
    """Make two blocks not adjacent; answer how many adjacent pairs there are."""
    if not (stadium.has_block(i) and stadium.has_block(j)):
        return [NO_SUCH_BLOCK]
    if not stadium.are_adjacent(i, j):
        return [NOTHING_TO_REMOVE]
    stadium.pairs.remove((min(i, j), max(i, j)))
    return [len(stadium.pairs)]


def swap_teams(stadium):
    """Exchange home and away in all assignments; answer how many blocks there are."""
    stadium.assignments = [other_side(assignment) for assignment in stadium.assignments]
    return [stadium.block_count()]


def other_side(assignment):
    """The assignment for the rival side; one without a side stays as it is."""
    if assignment == HOME:
        return AWAY
    if assignment == AWAY:
        return HOME
    return assignment


def fix_best(stadium):
    """Allow each block its use in the best allocation alone; answer the sold seats."""
    best = find_best(stadium, 0)
    if best is None:
        return [NO_ALLOCATION]
    stadium.assignments = [fixed_assignment(use) for use in best]
    return [count_sold(stadium, best)]


def fixed_assignment(use):
    """The assignment that allows this use alone."""
    if use == EMPTY:
        return CLOSED
    return use

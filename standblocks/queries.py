"""The operations that only ask about a stadium.

Each answers a list: what the operation returns, or a refusal alone.
"""

from standblocks.allocations import count_seats, count_sold, find_best, valid_allocations
from standblocks.refusals import NO_ALLOCATION, NO_SUCH_BLOCK, OUT_OF_RANGE
from standblocks.terms import AWAY, CLOSED


def list_blocks(stadium):
    """Answer how many blocks there are, then the seats and the assignment of each."""
    answer = [stadium.block_count()]
    for block in range(stadium.block_count()):
        answer.append(stadium.seats[block])
        answer.append(stadium.assignments[block])
    return answer


def neighbors(stadium, block):
    """Answer how many blocks are adjacent to this one, then their numbers."""
    if not stadium.has_block(block):
        return [NO_SUCH_BLOCK]
    adjacent = stadium.adjacent_blocks(block)
    return [len(adjacent)] + adjacent


def get_state(stadium):
    """Answer how many blocks, adjacent pairs and seats there are."""
    return [stadium.block_count(), len(stadium.pairs), sum(stadium.seats)]


def best_allocation(stadium):
    """Answer the sold seats of the best allocation, then its uses."""
    return best_with_away(stadium, 0)


def best_with_away(stadium, min_away):
    """Answer the sold seats of the best allocation with at least so many away seats, then its uses."""
    best = find_best(stadium, min_away)
    if best is None:
        return [NO_ALLOCATION]
    return [count_sold(stadium, best)] + best


def empty_seats(stadium):
    """Answer the seats in the blocks that the best allocation leaves empty."""
    best = find_best(stadium, 0)
    if best is None:
        return [NO_ALLOCATION]
    return [sum(stadium.seats) - count_sold(stadium, best)]


def max_away(stadium):
    """Answer the most away seats that a valid allocation has."""
    allocations = valid_allocations(stadium)
    if not allocations:
        return [NO_ALLOCATION]
    return [max([count_seats(stadium, allocation, AWAY) for allocation in allocations])]


def count_valid(stadium):
    """Answer how many valid allocations there are."""
    return [len(valid_allocations(stadium))]


def sold_if_assigned(stadium, block, assignment):
    """Answer the sold seats of the best allocation if the block had this assignment."""
    if not stadium.has_block(block):
        return [NO_SUCH_BLOCK]
    if assignment > CLOSED:
        return [OUT_OF_RANGE]
    best = find_best(stadium.reassigned(block, assignment), 0)
    if best is None:
        return [NO_ALLOCATION]
    return [count_sold(stadium, best)]


def sold_if_closed(stadium, block):
    """Answer the sold seats of the best allocation if the block were closed."""
    return sold_if_assigned(stadium, block, CLOSED)

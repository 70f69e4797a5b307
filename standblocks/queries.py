"""The operations that only ask about a stadium.

Each answers a list: what the operation returns, or a refusal alone.
"""

from standblocks.allocations import count_sold, find_best
from standblocks.refusals import NO_ALLOCATION, NO_SUCH_BLOCK


def list_blocks(stadium):
    """Answer how many blocks there are, then the seats and the assignment of each."""
    answer = [stadium.block_count()]
    for block in range(stadium.block_count()):
        answer.append(stadium.seats[block])
        answer.append(stadium.assignments[block])
    return answer


def neighbors(stadium, block):
    """Answer how many blocks are adjacent to this one, then their numbers."""
    if not stadium.has_block(block):
        return [NO_SUCH_BLOCK]
    adjacent = stadium.adjacent_blocks(block)
    return [len(adjacent)] + adjacent


def best_allocation(stadium):
    """Answer the sold seats of the best allocation, then its uses."""
    best = find_best(stadium)
    if best is None:
        return [NO_ALLOCATION]
    return [count_sold(stadium, best)] + best


def empty_seats(stadium):
    """Answer the seats in the blocks that the best allocation leaves empty."""
    best = find_best(stadium)
    if best is None:
        return [NO_ALLOCATION]
    return [sum(stadium.seats) - count_sold(stadium, best)]

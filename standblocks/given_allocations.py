"""The operations on allocations that are handed in.

Each answers a list: what the operation returns, or a refusal alone.
"""

from standblocks.allocations import count_seats, count_sold, valid_allocations
from standblocks.refusals import OUT_OF_RANGE
from standblocks.terms import AWAY, EMPTY, HOME


def is_valid(stadium, allocation):
    """Answer 1 if the allocation is valid, otherwise 0."""
    if not is_allocation(stadium, allocation):
        return [OUT_OF_RANGE]
    if allocation in valid_allocations(stadium):
        return [1]
    return [0]


def sold_seats(stadium, allocation):
    """Answer the sold seats of the allocation, then those sold to home and to away supporters."""
    if not is_allocation(stadium, allocation):
        return [OUT_OF_RANGE]
    home = count_seats(stadium, allocation, HOME)
    away = count_seats(stadium, allocation, AWAY)
    return [count_sold(stadium, allocation), home, away]


def join(stadium, first, second):
    """Answer how many blocks there are, then the join of the two allocations."""
    return combine(stadium, first, second, HOME)


def meet(stadium, first, second):
    """Answer how many blocks there are, then the meet of the two allocations."""
    return combine(stadium, first, second, AWAY)


def combine(stadium, first, second, side):
    """Answer how many blocks there are, then the use of each in both allocations together.

    The side needs only one of the two allocations to have a block, its rival needs both.
    """
    if not (is_allocation(stadium, first) and is_allocation(stadium, second)):
        return [OUT_OF_RANGE]
    answer = [len(first)]
    for first_use, second_use in zip(first, second):
        answer.append(combined_use(first_use, second_use, side))
    return answer


def combined_use(first_use, second_use, side):
    """The side if one of the uses is the side, else the use that both are, else empty."""
    if side in (first_use, second_use):
        return side
    if first_use == second_use:
        return first_use
    return EMPTY


def is_allocation(stadium, given):
    """Whether the list has one use for each block and nothing else."""
    if len(given) != stadium.block_count():
        return False
    for use in given:
        if use > AWAY:
            return False
    return True

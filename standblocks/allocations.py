"""The valid allocations of a stadium, the best of them, and the seats in the blocks of each use."""

from standblocks.terms import ANY_USE, AWAY, CLOSED, EMPTY, HOME


def find_best(stadium, min_away):
    """The best allocation with at least so many away seats, or None if there is no such one."""
    best = None
    most = 0
    for allocation in valid_allocations(stadium):
        if count_seats(stadium, allocation, AWAY) < min_away:
            continue
        sold = count_sold(stadium, allocation)
        # The lexicographically smallest comes first, so one that sells no more doesn't replace it.
        if best is None or sold > most:
            best = allocation
            most = sold
    return best


def valid_allocations(stadium):
    """All valid allocations in lexicographic order."""
    allocations = [[]]
    for block in range(stadium.block_count()):
        allocations = extended_by_block(stadium, allocations, block)
    return allocations


def extended_by_block(stadium, allocations, block):
    """The allocations of the blocks before this one, each with every use that this one may have.

    As the uses are tried in increasing order, the lexicographic order is kept.
    """
    uses = allowed_uses(stadium.assignments[block])
    earlier = [other for other in stadium.adjacent_blocks(block) if other < block]
    extended = []
    for allocation in allocations:
        for use in uses:
            if not meets_rival(allocation, earlier, use):
                extended.append(allocation + [use])
    return extended


def allowed_uses(assignment):
    """The uses that a block with this assignment may have, in increasing order."""
    if assignment == ANY_USE:
        return [EMPTY, HOME, AWAY]
    if assignment == CLOSED:
        return [EMPTY]
    return [assignment]


def meets_rival(allocation, blocks, use):
    """Whether one of the blocks has the use that must not be adjacent to the given use."""
    for block in blocks:
        if are_rivals(allocation[block], use):
            return True
    return False


def are_rivals(first_use, second_use):
    """Whether one use is home and the other away."""
    if first_use == HOME:
        return second_use == AWAY
    return first_use == AWAY and second_use == HOME


def count_sold(stadium, allocation):
    """The seats of all blocks that the allocation doesn't leave empty."""
    return count_seats(stadium, allocation, HOME) + count_seats(stadium, allocation, AWAY)


def count_seats(stadium, allocation, use):
    """The seats of all blocks with this use."""
    return sum([stadium.seats[block] for block in range(len(allocation)) if allocation[block] == use])

"""A session: calls in one list of numbers, and their answers in another."""

from standblocks.changes import add_block, assign, connect, disconnect, remove_last_block, set_seats, swap_teams
from standblocks.queries import best_allocation, empty_seats, list_blocks, neighbors
from standblocks.refusals import NO_PLANNER
from standblocks.stadium import Stadium

CREATE = 0
ADD_BLOCK = 1
REMOVE_LAST_BLOCK = 2
SET_SEATS = 3
ASSIGN = 4
CONNECT = 5
DISCONNECT = 6
SWAP_TEAMS = 7
LIST_BLOCKS = 8
NEIGHBORS = 9
BEST_ALLOCATION = 10

# How many numbers stand behind the number of each call, from create to empty_seats.
ARGUMENT_COUNTS = (0, 1, 0, 2, 2, 2, 2, 0, 0, 1, 0, 0)


def answers(calls):
    """The answers to the calls in order, each with its length before it."""
    given = []
    stadium = None
    start = 0
    while start < len(calls):
        end = start + 1 + ARGUMENT_COUNTS[calls[start]]
        call = calls[start:end]
        if call[0] == CREATE:
            stadium = Stadium()
            answer = [0]
        elif stadium is None:
            answer = [NO_PLANNER]
        else:
            answer = answer_call(stadium, call)
        given.append(len(answer))
        given.extend(answer)
        start = end
    return given


def answer_call(stadium, call):
    """The answer to one call, its number first, on a stadium that is there."""
    if call[0] <= SWAP_TEAMS:
        return answer_change(stadium, call)
    return answer_query(stadium, call)


def answer_change(stadium, call):
    """The answer to a call that may change the stadium."""
    number = call[0]
    if number == ADD_BLOCK:
        return add_block(stadium, call[1])
    if number == REMOVE_LAST_BLOCK:
        return remove_last_block(stadium)
    if number == SET_SEATS:
        return set_seats(stadium, call[1], call[2])
    if number == ASSIGN:
        return assign(stadium, call[1], call[2])
    if number == CONNECT:
        return connect(stadium, call[1], call[2])
    if number == DISCONNECT:
        return disconnect(stadium, call[1], call[2])
    return swap_teams(stadium)


def answer_query(stadium, call):
    """The answer to a call that leaves the stadium as it is."""
    number = call[0]
    if number == LIST_BLOCKS:
        return list_blocks(stadium)
    if number == NEIGHBORS:
        return neighbors(stadium, call[1])
    if number == BEST_ALLOCATION:
        return best_allocation(stadium)
    return empty_seats(stadium)

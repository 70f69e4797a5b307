"""A session: calls in one list of numbers, and their answers in another."""

from standblocks.changes import add_block, assign, connect, disconnect, fix_best
from standblocks.changes import remove_last_block, set_seats, swap_teams
from standblocks.given_allocations import is_valid, join, meet, sold_seats
from standblocks.queries import best_allocation, best_with_away, count_valid, empty_seats, get_state
from standblocks.queries import list_blocks, max_away, neighbors, sold_if_assigned, sold_if_closed
from standblocks.refusals import NO_PLANNER
from standblocks.stadium import Stadium

CREATE = 0
ADD_BLOCK = 1
REMOVE_LAST_BLOCK = 2
SET_SEATS = 3
ASSIGN = 4
CONNECT = 5
DISCONNECT = 6
SWAP_TEAMS = 7
LIST_BLOCKS = 8
NEIGHBORS = 9
BEST_ALLOCATION = 10
EMPTY_SEATS = 11
BEST_WITH_AWAY = 12
MAX_AWAY = 13
IS_VALID = 14
SOLD_SEATS = 15
JOIN = 16
SOLD_IF_ASSIGNED = 18
SOLD_IF_CLOSED = 19
COUNT_VALID = 20
FIX_BEST = 21

# How many plain numbers stand behind the number of each call, from create to get_state.
NUMBER_COUNTS = (0, 1, 0, 2, 2, 2, 2, 0, 0, 1, 0, 0, 1, 0, 0, 0, 0, 0, 2, 1, 0, 0, 0)

# How many lists stand behind those, each with its length before it.
LIST_COUNTS = (0, 0, 0, 0, 0, 0, 0, 0, 0, 0, 0, 0, 0, 0, 1, 1, 2, 2, 0, 0, 0, 0, 0)


def answers(calls):
    """The answers to the calls in order, each with its length before it."""
    given = []
    stadium = None
    start = 0
    while start < len(calls):
        call, lists, start = read_call(calls, start)
        if call[0] == CREATE:
            stadium = Stadium()
            answer = [0]
        elif stadium is None:
            answer = [NO_PLANNER]
        else:
            answer = answer_call(stadium, call, lists)
        given.append(len(answer))
        given.extend(answer)
    return given


def read_call(calls, start):
    """The call that starts here, its number first; its lists; where the next call starts."""
    number = calls[start]
    end = start + 1 + NUMBER_COUNTS[number]
    call = calls[start:end]
    lists = []
    for turn in range(LIST_COUNTS[number]):
        begin = end + 1
        end = begin + calls[end]
        lists.append(calls[begin:end])
    return call, lists, end


def answer_call(stadium, call, lists):
    """The answer to one call on a stadium that is there."""
    number = call[0]
    if number <= SWAP_TEAMS or number == FIX_BEST:
        return answer_change(stadium, call)
    if lists:
        return answer_about_lists(stadium, number, lists)
    return answer_query(stadium, call)


def answer_change(stadium, call):
    """The answer to a call that may change the stadium."""
    number = call[0]
    if number == ADD_BLOCK:
        return add_block(stadium, call[1])
    if number == REMOVE_LAST_BLOCK:
        return remove_last_block(stadium)
    if number == SET_SEATS:
        return set_seats(stadium, call[1], call[2])
    if number == ASSIGN:
        return assign(stadium, call[1], call[2])
    if number == CONNECT:
        return connect(stadium, call[1], call[2])
    if number == DISCONNECT:
        return disconnect(stadium, call[1], call[2])
    if number == SWAP_TEAMS:
        return swap_teams(stadium)
    return fix_best(stadium)


def answer_about_lists(stadium, number, lists):
    """The answer to a call about allocations that are handed in."""
    if number == IS_VALID:
        return is_valid(stadium, lists[0])
    if number == SOLD_SEATS:
        return sold_seats(stadium, lists[0])
    if number == JOIN:
        return join(stadium, lists[0], lists[1])
    return meet(stadium, lists[0], lists[1])


def answer_query(stadium, call):
    """The answer to a call that asks about the stadium alone."""
    number = call[0]
    if number == LIST_BLOCKS:
        return list_blocks(stadium)
    if number == NEIGHBORS:
        return neighbors(stadium, call[1])
    if number == BEST_ALLOCATION:
        return best_allocation(stadium)
    if number == EMPTY_SEATS:
        return empty_seats(stadium)
    if number == BEST_WITH_AWAY:
        return best_with_away(stadium, call[1])
    if number == MAX_AWAY:
        return max_away(stadium)
    if number == SOLD_IF_ASSIGNED:
        return sold_if_assigned(stadium, call[1], call[2])
    if number == SOLD_IF_CLOSED:
        return sold_if_closed(stadium, call[1])
    if number == COUNT_VALID:
        return count_valid(stadium)
    return get_state(stadium)

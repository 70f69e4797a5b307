"""What the tests share: sessions written call by call, and a plain search of their own."""

import itertools
import unittest

from standblocks.planner import answers

NUMBERS = {
    "create": 0,
    "add_block": 1,
    "remove_last_block": 2,
    "set_seats": 3,
    "assign": 4,
    "connect": 5,
    "disconnect": 6,
    "swap_teams": 7,
    "list_blocks": 8,
    "neighbors": 9,
    "best_allocation": 10,
    "empty_seats": 11,
    "best_with_away": 12,
    "max_away": 13,
    "is_valid": 14,
    "sold_seats": 15,
    "join": 16,
    "meet": 17,
    "sold_if_assigned": 18,
    "sold_if_closed": 19,
    "count_valid": 20,
    "fix_best": 21,
    "get_state": 22,
}

LARGEST = 4294967295
LARGEST_IN_LISTS = 65535
MOST_CALLS = 256


def flatten(calls):
    """The one list that is handed in for calls such as ("add_block", 10) or ("is_valid", [0, 1])."""
    flat = []
    for name, *arguments in calls:
        flat.append(NUMBERS[name])
        for argument in arguments:
            if isinstance(argument, int):
                flat.append(argument)
            else:
                flat.append(len(argument))
                flat.extend(argument)
    return flat


def split(flat):
    """The answers, a list each, from the one list that is given back."""
    parts = []
    position = 0
    while position < len(flat):
        length = flat[position]
        part = flat[position + 1:position + 1 + length]
        if length < 1 or len(part) != length:
            raise AssertionError(f"an answer of {length} numbers at {position} in {flat}")
        parts.append(part)
        position += 1 + length
    return parts


def ask(*calls):
    """The answers to the calls, a list each."""
    if len(calls) > MOST_CALLS:
        raise AssertionError(f"{len(calls)} calls in one session")
    parts = split(answers(flatten(calls)))
    if len(parts) != len(calls):
        raise AssertionError(f"{len(parts)} answers to {len(calls)} calls")
    return parts


def ask_last(*calls):
    """The answer to the last of the calls."""
    return ask(*calls)[-1]


def ask_behind(before, calls):
    """The answers to calls that change nothing, in as many sessions as they need, each begun the same."""
    room = MOST_CALLS - len(before)
    given = []
    for start in range(0, len(calls), room):
        given += ask(*before, *calls[start:start + room])[len(before):]
    return given


def build(seats, assignments=None, pairs=()):
    """The calls that make a planner with these blocks."""
    calls = [("create",)]
    calls += [("add_block", number) for number in seats]
    calls += [("assign", block, use) for block, use in enumerate(assignments or [])]
    calls += [("connect", i, j) for i, j in pairs]
    return calls


def view(block_count):
    """The calls that show the whole state of a planner with so many blocks."""
    return [("list_blocks",)] + [("neighbors", block) for block in range(block_count)]


class RefusalTest(unittest.TestCase):
    """A test that asks for refusals which leave no trace."""

    def check_refused(self, before, call, code, block_count):
        """The call answers the code alone, and what the planner shows is as it was."""
        with self.subTest(call=call, before=before):
            shown = [*view(block_count), ("get_state",), ("best_allocation",), ("empty_seats",), ("count_valid",)]
            kept = ask(*before, *shown)[len(before):]
            given = ask(*before, call, *shown)[len(before):]
            self.assertEqual(given, [[code], *kept])


def every_allocation(count):
    """All lists of uses of so many blocks, in lexicographic order."""
    return [list(uses) for uses in itertools.product((0, 1, 2), repeat=count)]


def is_separated(uses, pairs):
    """Whether no home block is adjacent to an away block."""
    return all({uses[i], uses[j]} != {1, 2} for i, j in pairs)


def is_valid(uses, assignments, pairs):
    """Whether an allocation is valid, straight from the document's terms."""
    for use, assignment in zip(uses, assignments):
        if assignment in (1, 2) and use != assignment:
            return False
        if assignment == 3 and use != 0:
            return False
    return is_separated(uses, pairs)


def seats_of(seats, uses, *counted):
    """The seats of the blocks whose use is one of those that are counted."""
    return sum(number for number, use in zip(seats, uses) if use in counted)


def search_valid(seats, assignments, pairs):
    """All valid allocations, from a look at every list of uses."""
    return [uses for uses in every_allocation(len(seats)) if is_valid(uses, assignments, pairs)]


def best_of(seats, valid, min_away):
    """The due answer of best_with_away where these are the valid allocations."""
    enough = [uses for uses in valid if seats_of(seats, uses, 2) >= min_away]
    if not enough:
        return [-33]
    sold, uses = min((-seats_of(seats, uses, 1, 2), uses) for uses in enough)
    return [-sold, *uses]


def search_best(seats, assignments, pairs, min_away=0):
    """The due answer of best_with_away."""
    return best_of(seats, search_valid(seats, assignments, pairs), min_away)


def search_empty(seats, assignments, pairs):
    """The due answer of empty_seats."""
    due = search_best(seats, assignments, pairs)
    if due == [-33]:
        return due
    return [seats_of(seats, due[1:], 0)]


def search_max_away(seats, assignments, pairs):
    """The due answer of max_away."""
    return [max((seats_of(seats, uses, 2) for uses in search_valid(seats, assignments, pairs)), default=-33)]


def search_sold_if(seats, assignments, pairs, block, assignment):
    """The due answer of sold_if_assigned."""
    changed = [*assignments[:block], assignment, *assignments[block + 1:]]
    return search_best(seats, changed, pairs)[:1]


def join_of(first, second):
    """The join of two allocations, block by block from the document's terms."""
    return [1 if 1 in both else 2 if both == (2, 2) else 0 for both in zip(first, second)]


def meet_of(first, second):
    """The meet of two allocations, block by block from the document's terms."""
    return [2 if 2 in both else 1 if both == (1, 1) else 0 for both in zip(first, second)]

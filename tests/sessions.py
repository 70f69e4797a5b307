"""What the tests share: sessions written call by call, and a plain search of their own."""

import itertools

from standblocks.planner import answers

NUMBERS = {
    "create": 0,
    "add_block": 1,
    "remove_last_block": 2,
    "set_seats": 3,
    "assign": 4,
    "connect": 5,
    "disconnect": 6,
    "swap_teams": 7,
    "list_blocks": 8,
    "neighbors": 9,
    "best_allocation": 10,
    "empty_seats": 11,
}

LARGEST = 4294967295


def flatten(calls):
    """The one list that is handed in for calls such as ("add_block", 10)."""
    flat = []
    for name, *arguments in calls:
        flat.append(NUMBERS[name])
        flat.extend(arguments)
    return flat


def split(flat):
    """The answers, a list each, from the one list that is given back."""
    parts = []
    position = 0
    while position < len(flat):
        length = flat[position]
        part = flat[position + 1:position + 1 + length]
        if length < 1 or len(part) != length:
            raise AssertionError(f"an answer of {length} numbers at {position} in {flat}")
        parts.append(part)
        position += 1 + length
    return parts


def ask(*calls):
    """The answers to the calls, a list each."""
    parts = split(answers(flatten(calls)))
    if len(parts) != len(calls):
        raise AssertionError(f"{len(parts)} answers to {len(calls)} calls")
    return parts


def ask_last(*calls):
    """The answer to the last of the calls."""
    return ask(*calls)[-1]


def build(seats, assignments=None, pairs=()):
    """The calls that make a planner with these blocks."""
    calls = [("create",)]
    calls += [("add_block", number) for number in seats]
    calls += [("assign", block, use) for block, use in enumerate(assignments or [])]
    calls += [("connect", i, j) for i, j in pairs]
    return calls


def view(block_count):
    """The calls that show the whole state of a planner with so many blocks."""
    return [("list_blocks",)] + [("neighbors", block) for block in range(block_count)]


def is_valid(uses, assignments, pairs):
    """Whether an allocation is valid, straight from the document's terms."""
    for use, assignment in zip(uses, assignments):
        if assignment in (1, 2) and use != assignment:
            return False
        if assignment == 3 and use != 0:
            return False
    return all({uses[i], uses[j]} != {1, 2} for i, j in pairs)


def search_best(seats, assignments, pairs):
    """The due answer of best_allocation, from a look at every list of uses."""
    due = None
    for uses in itertools.product((0, 1, 2), repeat=len(seats)):
        if not is_valid(uses, assignments, pairs):
            continue
        sold = sum(number for number, use in zip(seats, uses) if use != 0)
        if due is None or (-sold, uses) < (-due[0], tuple(due[1:])):
            due = [sold, *uses]
    return due or [-33]


def search_empty(seats, assignments, pairs):
    """The due answer of empty_seats."""
    due = search_best(seats, assignments, pairs)
    if due == [-33]:
        return due
    return [sum(number for number, use in zip(seats, due[1:]) if use == 0)]

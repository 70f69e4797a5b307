"""Planners and calls that are drawn, the same ones at each run."""

import itertools

from sessions import LARGEST, LARGEST_IN_LISTS

# Each kind of call stands here once for each time it comes up in about 60 drawn calls.
KINDS = (
    ["add_block"] * 8 + ["remove_last_block"] * 2 + ["set_seats"] * 3 + ["assign"] * 4 + ["connect"] * 8
    + ["disconnect"] * 3 + ["swap_teams"] + ["list_blocks"] * 2 + ["neighbors"] * 2 + ["best_allocation"]
    + ["empty_seats"] + ["best_with_away"] * 3 + ["max_away"] * 2 + ["is_valid"] * 3 + ["sold_seats"] * 2
    + ["join"] * 3 + ["meet"] * 3 + ["sold_if_assigned"] * 3 + ["sold_if_closed"] * 2 + ["count_valid"] * 2
    + ["fix_best"] + ["get_state"] * 2
)


def draw_block(draw):
    return draw.choice((0, 0, 1, 1, 2, 2, 3, 4, 5, 6, LARGEST))


def draw_seats(draw):
    return draw.choice((0, 1, 2, 3, draw.randint(0, 99), 99, 100, LARGEST))


def draw_assignment(draw):
    return draw.choice((0, 0, 1, 2, 3, 4, LARGEST))


def draw_list(draw, block_count):
    """Mostly an allocation of so many blocks."""
    length = draw.choice((block_count,) * 12 + (block_count + 1, max(block_count, 1) - 1, 0, 40))
    uses = [draw.choice((0, 1, 2)) for _ in range(length)]
    if uses and draw.random() < 0.1:
        uses[draw.randrange(length)] = draw.choice((3, 4, LARGEST_IN_LISTS))
    return uses


def draw_call(draw, block_count, kinds=KINDS):
    """A call whose numbers are mostly near the edges of their ranges."""
    name = draw.choice(kinds)
    if name == "add_block":
        return (name, draw_seats(draw))
    if name == "set_seats":
        return (name, draw_block(draw), draw_seats(draw))
    if name in ("assign", "sold_if_assigned"):
        return (name, draw_block(draw), draw_assignment(draw))
    if name in ("connect", "disconnect"):
        return (name, draw_block(draw), draw_block(draw))
    if name in ("neighbors", "sold_if_closed"):
        return (name, draw_block(draw))
    if name == "best_with_away":
        return (name, draw.choice((0, 1, 2, 3, draw.randint(0, 99), draw.randint(0, 400), LARGEST)))
    if name in ("is_valid", "sold_seats"):
        return (name, draw_list(draw, block_count))
    if name in ("join", "meet"):
        return (name, draw_list(draw, block_count), draw_list(draw, block_count))
    return (name,)


def draw_planner(draw, counts=(4, 5, 6)):
    """Seats, assignments and adjacent pairs of a planner with one of these numbers of blocks."""
    count = draw.choice(counts)
    seats = [draw.randint(0, draw.choice((2, 9, 99))) for _ in range(count)]
    assignments = [draw.choice((0, 0, 0, 0, 1, 2, 3)) for _ in range(count)]
    share = draw.random()
    pairs = [pair for pair in itertools.combinations(range(count), 2) if draw.random() < share]
    return seats, assignments, pairs

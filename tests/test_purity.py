"""That the calls which only ask, and those that are refused, leave the state as it was."""

import itertools
import random
import unittest

from drawing import draw_call, draw_planner
from sessions import LARGEST, LARGEST_IN_LISTS, ask, build, view

QUERIES = (
    "list_blocks", "neighbors", "best_allocation", "empty_seats", "best_with_away", "max_away", "is_valid",
    "sold_seats", "join", "meet", "sold_if_assigned", "sold_if_closed", "count_valid", "get_state",
)

PLANNERS = (
    ([], None, []),
    ([5], [2], []),
    ([10, 5, 8], [1, 0, 2], [(0, 1), (1, 2)]),
    ([4, 4, 4], [1, 2, 0], [(0, 1)]),
    ([0, 99, 3, 4, 5, 6], [0, 3, 1, 2, 0, 0], [(0, 2), (3, 4), (4, 5)]),
)


def queries_about(count):
    """Each kind of query with ordinary, extreme and wrong numbers."""
    calls = [("best_allocation",), ("empty_seats",), ("max_away",), ("count_valid",), ("list_blocks",), ("get_state",)]
    calls += [("best_with_away", number) for number in (0, 1, 5, 600, LARGEST)]
    for block in (0, count // 2, max(count, 1) - 1, count, LARGEST):
        calls += [("neighbors", block), ("sold_if_closed", block)]
        calls += [("sold_if_assigned", block, assignment) for assignment in (0, 1, 2, 3, 4, LARGEST)]
    lists = [[0] * count, [1] * count, [2] * count, [3] * count, [1] * (count + 1), [], [LARGEST_IN_LISTS] * 40]
    for first in lists:
        calls += [("is_valid", first), ("sold_seats", first)]
    for first, second in itertools.product(lists, repeat=2):
        calls += [("join", first, second), ("meet", first, second)]
    return calls


class Purity(unittest.TestCase):
    def test_whatever_query_stands_between(self):
        for planner in PLANNERS:
            calls = build(*planner)
            shown = [*view(len(planner[0])), ("get_state",)]
            kept = ask(*calls, *shown)[len(calls):]
            for query in queries_about(len(planner[0])):
                given = ask(*calls, query, *shown, query, *shown)[len(calls):]
                self.assertEqual(given[1:len(shown) + 1], kept, query)
                self.assertEqual(given[len(shown) + 1:], given[:len(shown) + 1], query)

    def test_many_queries_between(self):
        draw = random.Random(60)
        for turn in range(60):
            planner = draw_planner(draw, (1, 2, 3, 4, 5, 6))
            count = len(planner[0])
            calls = build(*planner)
            shown = [*view(count), ("get_state",)]
            between = [draw_call(draw, count, QUERIES) for _ in range(150)]
            given = ask(*calls, *shown, *between, *shown)[len(calls):]
            self.assertEqual(given[-len(shown):], given[:len(shown)], planner)

    def test_queries_in_another_order_are_answered_the_same(self):
        draw = random.Random(61)
        for turn in range(30):
            planner = draw_planner(draw)
            calls = build(*planner)
            asked = [draw_call(draw, len(planner[0]), QUERIES) for _ in range(150)]
            given = ask(*calls, *asked)[len(calls):]
            turned = ask(*calls, *reversed(asked))[len(calls):]
            self.assertEqual(turned[::-1], given, planner)

    def test_refused_changes(self):
        for planner in PLANNERS:
            count = len(planner[0])
            refused = [("add_block", 100), ("set_seats", count, 1), ("assign", count, 1), ("connect", 0, count),
                       ("disconnect", count, 0), ("set_seats", 0, LARGEST), ("assign", 0, LARGEST), ("connect", 0, 0),
                       ("disconnect", 0, 0)]
            calls = build(*planner)
            shown = [*view(count), ("get_state",)]
            given = ask(*calls, *shown, *refused, *shown)[len(calls):]
            self.assertTrue(all(part[0] < 0 and len(part) == 1 for part in given[len(shown):-len(shown)]))
            self.assertEqual(given[-len(shown):], given[:len(shown)])


if __name__ == "__main__":
    unittest.main()

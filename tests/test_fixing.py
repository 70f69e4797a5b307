"""fix_best, and that it preserves the best allocation."""

import random
import unittest

from drawing import draw_planner
from sessions import RefusalTest, ask, build, search_best, search_empty

SHOWN = [("list_blocks",), ("best_allocation",), ("empty_seats",), ("count_valid",)]


class FixBest(RefusalTest):
    def check(self, calls, sold, listed):
        """The seats sold, the blocks behind it, and the best allocation as before, now the only one."""
        best, empty = ask(*calls, ("best_allocation",), ("empty_seats",))[-2:]
        given = ask(*calls, ("fix_best",), *SHOWN)[len(calls):]
        self.assertEqual(given, [[sold], listed, best, empty, [1]])
        self.assertEqual(best[0], sold)

    def test_no_blocks(self):
        self.check(build([]), 0, [0])

    def test_one_block(self):
        self.check(build([5], [0]), 5, [1, 5, 1])
        self.check(build([5], [1]), 5, [1, 5, 1])
        self.check(build([5], [2]), 5, [1, 5, 2])
        self.check(build([5], [3]), 0, [1, 5, 3])

    def test_empty_blocks_are_closed(self):
        self.check(build([10, 5, 8], [1, 0, 2], [(0, 1), (1, 2)]), 18, [3, 10, 1, 5, 3, 8, 2])
        self.check(build([5, 0, 6]), 11, [3, 5, 1, 0, 3, 6, 1])
        self.check(build([0, 0]), 0, [2, 0, 3, 0, 3])

    def test_of_several_the_smallest_is_fixed(self):
        self.check(build([4, 4], None, [(0, 1)]), 8, [2, 4, 1, 4, 1])
        self.check(build([4, 4, 4, 4], [2, 0, 0, 1], [(0, 1), (1, 2), (2, 3)]), 12, [4, 4, 2, 4, 3, 4, 1, 4, 1])

    def test_away_blocks(self):
        self.check(build([9, 5, 0], [0, 2, 2], [(0, 1)]), 14, [3, 9, 2, 5, 2, 0, 2])

    def test_nothing_but_the_assignments_changes(self):
        calls = build([10, 5, 8, 7], [1, 0, 2, 0], [(0, 1), (1, 2), (3, 0)])
        shown = [("neighbors", block) for block in range(4)] + [("get_state",)]
        kept = ask(*calls, *shown)[len(calls):]
        self.assertEqual(ask(*calls, ("fix_best",), *shown)[len(calls) + 1:], kept)

    def test_what_can_be_had_behind_it(self):
        calls = build([4, 4], None, [(0, 1)])
        given = ask(*calls, ("fix_best",), ("max_away",), ("best_with_away", 1), ("is_valid", [2, 2]),
                    ("is_valid", [1, 1]), ("add_block", 3), ("list_blocks",))
        self.assertEqual(given[len(calls):], [[8], [0], [-33], [0], [1], [2], [3, 4, 1, 4, 1, 3, 0]])

    def test_it_can_be_undone_by_assign(self):
        calls = build([10, 5, 8], [1, 0, 2], [(0, 1), (1, 2)])
        given = ask(*calls, ("fix_best",), ("assign", 2, 0), ("assign", 1, 0), ("fix_best",), ("list_blocks",))
        self.assertEqual(given[len(calls):], [[18], [2], [3], [23], [3, 10, 1, 5, 1, 8, 1]])

    def test_a_second_time(self):
        calls = build([10, 5, 8], [1, 0, 2], [(0, 1), (1, 2)])
        self.assertEqual(ask(*calls, ("fix_best",), ("fix_best",), ("list_blocks",))[-3:],
                         [[18], [18], [3, 10, 1, 5, 3, 8, 2]])

    def test_no_valid_allocation(self):
        self.check_refused(build([4, 5], [1, 2], [(0, 1)]), ("fix_best",), -33, 2)
        self.check_refused(build([0, 0, 0], [2, 0, 1], [(0, 2)]), ("fix_best",), -33, 3)

    def test_drawn_planners(self):
        draw = random.Random(5)
        for turn in range(400):
            planner = draw_planner(draw, (1, 2, 3, 4, 5, 6))
            seats = planner[0]
            calls = build(*planner)
            best = search_best(*planner)
            given = ask(*calls, ("fix_best",), *SHOWN, *SHOWN[:2])[len(calls):]
            self.assertEqual(given[0], best[:1], planner)
            if best == [-33]:
                assignments = planner[1]
                valid = 0
            else:
                assignments = [use or 3 for use in best[1:]]
                valid = 1
            listed = [len(seats)] + [number for block in zip(seats, assignments) for number in block]
            self.assertEqual(given[1:5], [listed, best, search_empty(*planner), [valid]], planner)
            self.assertEqual(given[5:], given[1:3], planner)


if __name__ == "__main__":
    unittest.main()

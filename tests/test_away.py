"""best_with_away and max_away."""

import unittest

from sessions import LARGEST, RefusalTest, ask, build


class Away(RefusalTest):
    def check(self, calls, most, *steps):
        """max_away answers the most; each step is a min_away and what is due from best_with_away."""
        given = ask(*calls, ("max_away",), *[("best_with_away", min_away) for min_away, _ in steps])
        self.assertEqual(given[len(calls):], [[most], *[due for _, due in steps]])
        self.assertEqual(ask(*calls, ("best_allocation",), ("best_with_away", 0))[-1], steps[0][1])
        for min_away in (most + 1, most + 2, most + 1000, LARGEST):
            self.check_refused(calls, ("best_with_away", min_away), -33, len(steps[0][1]) - 1)

    def test_no_blocks(self):
        self.check(build([]), 0, (0, [0]))
        self.check([*build([5, 6], [2, 0]), ("create",)], 0, (0, [0]))
        self.check([*build([5], [2]), ("remove_last_block",)], 0, (0, [0]))

    def test_one_block(self):
        self.check(build([5], [0]), 5, (0, [5, 1]), (1, [5, 2]), (4, [5, 2]), (5, [5, 2]))
        self.check(build([5], [1]), 0, (0, [5, 1]))
        self.check(build([5], [2]), 5, (0, [5, 2]), (1, [5, 2]), (5, [5, 2]))
        self.check(build([5], [3]), 0, (0, [0, 0]))

    def test_two_adjacent_blocks(self):
        self.check(build([4, 4], None, [(0, 1)]), 8,
                   (0, [8, 1, 1]), (1, [8, 2, 2]), (4, [8, 2, 2]), (5, [8, 2, 2]), (8, [8, 2, 2]))

    def test_the_smallest_of_several(self):
        self.check(build([4, 4, 4]), 12,
                   (0, [12, 1, 1, 1]), (1, [12, 1, 1, 2]), (4, [12, 1, 1, 2]), (5, [12, 1, 2, 2]),
                   (8, [12, 1, 2, 2]), (9, [12, 2, 2, 2]), (12, [12, 2, 2, 2]))
        self.check(build([6, 4]), 10,
                   (0, [10, 1, 1]), (4, [10, 1, 2]), (5, [10, 2, 1]), (6, [10, 2, 1]), (7, [10, 2, 2]))
        self.check(build([4, 6]), 10, (0, [10, 1, 1]), (1, [10, 1, 2]), (6, [10, 1, 2]), (7, [10, 2, 2]))
        self.check(build([3, 5, 7]), 15,
                   (0, [15, 1, 1, 1]), (7, [15, 1, 1, 2]), (8, [15, 1, 2, 2]), (12, [15, 1, 2, 2]), (13, [15, 2, 2, 2]))

    def test_the_smallest_of_several_with_an_empty_block(self):
        path = [(0, 1), (1, 2), (2, 3)]
        self.check(build([4, 4, 4, 4], [1, 0, 0, 0], path), 8,
                   (0, [16, 1, 1, 1, 1]), (1, [12, 1, 0, 2, 2]), (4, [12, 1, 0, 2, 2]), (8, [12, 1, 0, 2, 2]))
        self.check(build([4, 4, 3, 4], [1, 0, 0, 0], path), 7,
                   (0, [15, 1, 1, 1, 1]), (1, [12, 1, 1, 0, 2]), (4, [12, 1, 1, 0, 2]), (5, [11, 1, 0, 2, 2]))

    def test_away_seats_may_cost_sold_seats(self):
        self.check(build([5, 3, 9], [1, 0, 0], [(0, 1), (1, 2)]), 9,
                   (0, [17, 1, 1, 1]), (1, [14, 1, 0, 2]), (9, [14, 1, 0, 2]))

    def test_assigned_blocks(self):
        self.check(build([5, 7, 3], [2, 1, 0]), 8, (0, [15, 2, 1, 1]), (5, [15, 2, 1, 1]), (6, [15, 2, 1, 2]))
        self.check(build([4, 4, 4], [0, 1, 0], [(0, 1), (1, 2)]), 0, (0, [12, 1, 1, 1]))
        self.check(build([4, 4, 4], [0, 2, 0], [(0, 1), (1, 2)]), 12, (0, [12, 2, 2, 2]), (12, [12, 2, 2, 2]))

    def test_closed_blocks(self):
        self.check(build([5, 6], [3, 0]), 6, (0, [6, 0, 1]), (1, [6, 0, 2]), (6, [6, 0, 2]))
        self.check(build([5, 6], [3, 3]), 0, (0, [0, 0, 0]))
        self.check(build([5, 7, 6], [1, 3, 0], [(0, 1), (1, 2)]), 6, (0, [11, 1, 0, 1]), (6, [11, 1, 0, 2]))

    def test_blocks_without_seats(self):
        self.check(build([0, 0]), 0, (0, [0, 0, 0]))
        self.check(build([0], [2]), 0, (0, [0, 2]))
        self.check(build([0, 5]), 5, (0, [5, 0, 1]), (1, [5, 0, 2]), (5, [5, 0, 2]))
        self.check(build([0, 5], [2, 0]), 5, (0, [5, 2, 1]), (1, [5, 2, 2]))
        self.check(build([5, 0, 6], None, [(0, 1), (1, 2)]), 11,
                   (0, [11, 1, 0, 1]), (1, [11, 1, 0, 2]), (6, [11, 1, 0, 2]), (7, [11, 2, 0, 2]), (11, [11, 2, 0, 2]))

    def test_the_most_seats_there_can_be(self):
        self.check(build([99] * 6), 594,
                   (0, [594, 1, 1, 1, 1, 1, 1]), (99, [594, 1, 1, 1, 1, 1, 2]), (100, [594, 1, 1, 1, 1, 2, 2]),
                   (594, [594, 2, 2, 2, 2, 2, 2]))

    def test_no_valid_allocation(self):
        for before in (build([4, 5], [1, 2], [(0, 1)]), build([0, 0], [2, 1], [(0, 1)])):
            self.check_refused(before, ("max_away",), -33, 2)
            for min_away in (0, 1, 4, 5, 9, 100, LARGEST):
                self.check_refused(before, ("best_with_away", min_away), -33, 2)

    def test_the_answers_follow_the_changes(self):
        calls = build([4, 5], [1, 0], [(0, 1)])
        asked = [("max_away",), ("best_with_away", 5)]
        given = ask(*calls, *asked, ("disconnect", 0, 1), *asked, ("set_seats", 1, 4), *asked, ("swap_teams",), *asked)
        self.assertEqual(given[len(calls):], [[0], [-33], [0], [5], [9, 1, 2], [5], [4], [-33], [2], [8], [8, 2, 2]])


if __name__ == "__main__":
    unittest.main()

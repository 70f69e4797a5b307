"""The calls that search against a plain search over all allocations (points 1 and 4)."""

import itertools
import random
import unittest

from drawing import draw_planner
from sessions import (
    LARGEST, ask_behind, best_of, build, is_valid, search_empty, search_max_away, search_sold_if, search_valid,
    seats_of,
)


class Search(unittest.TestCase):
    def check(self, planner, amounts):
        """All that is asked about one planner, with best_with_away for these amounts in increasing order."""
        seats, assignments, pairs = planner
        valid = search_valid(*planner)
        asked = [("best_allocation",), ("empty_seats",), ("max_away",), ("count_valid",)]
        due = [best_of(seats, valid, 0), search_empty(*planner), search_max_away(*planner), [len(valid)]]
        asked += [("best_with_away", amount) for amount in amounts]
        due += [best_of(seats, valid, amount) for amount in amounts]
        given = ask_behind(build(*planner), asked)
        self.assertEqual(given, due, planner)
        self.check_optimal(given[0], planner, valid)
        self.check_monotone(given[4:], planner)

    def check_optimal(self, best, planner, valid):
        """Point 1: valid, and none sells more; there is one if and only if no rivals meet."""
        seats, assignments, pairs = planner
        rivals_meet = any({assignments[i], assignments[j]} == {1, 2} for i, j in pairs)
        self.assertEqual(best == [-33], rivals_meet, planner)
        if not rivals_meet:
            self.assertTrue(is_valid(best[1:], assignments, pairs), planner)
            self.assertEqual(best[0], max(seats_of(seats, uses, 1, 2) for uses in valid), planner)

    def check_monotone(self, bests, planner):
        """Point 4; a refusal is below all sold seats, so once refused, always refused."""
        sold = [best[0] for best in bests]
        self.assertEqual(sold, sorted(sold, reverse=True), planner)

    def check_sold_if(self, planner):
        """sold_if_assigned and sold_if_closed for each block."""
        for block in range(len(planner[0])):
            asked = [("sold_if_assigned", block, assignment) for assignment in range(4)] + [("sold_if_closed", block)]
            due = [search_sold_if(*planner, block, assignment) for assignment in (0, 1, 2, 3, 3)]
            self.assertEqual(ask_behind(build(*planner), asked), due, planner)

    def test_all_small_planners(self):
        for count in range(4):
            ways = list(itertools.combinations(range(count), 2))
            for assignments in itertools.product(range(4), repeat=count):
                for chosen in itertools.product((False, True), repeat=len(ways)):
                    pairs = [pair for pair, there in zip(ways, chosen) if there]
                    for seats in ([1, 1, 1], [1, 2, 3], [3, 2, 2], [0, 1, 0]):
                        planner = (seats[:count], list(assignments), pairs)
                        self.check(planner, [*range(sum(seats) + 2), LARGEST])
                        if seats == [1, 2, 3]:
                            self.check_sold_if(planner)

    def test_planners_of_up_to_six_blocks(self):
        draw = random.Random(6)
        for turn in range(500):
            planner = draw_planner(draw, (4, 5, 6))
            most = search_max_away(*planner)[0]
            amounts = [draw.randint(0, max(most, 0)) for _ in range(8)]
            self.check(planner, sorted([0, 1, *amounts, max(most - 1, 0), max(most, 0), most + 1, LARGEST]))

    def test_each_amount_of_away_seats(self):
        draw = random.Random(7)
        for turn in range(60):
            planner = draw_planner(draw, (3, 4))
            self.check(planner, range(sum(planner[0]) + 2))

    def test_other_assignments_of_drawn_planners(self):
        draw = random.Random(8)
        for turn in range(60):
            self.check_sold_if(draw_planner(draw, (4, 5, 6)))

    def test_paths_and_rings_of_like_blocks(self):
        path = [(block, block + 1) for block in range(5)]
        for pairs in (path, path + [(0, 5)], path + [(0, 3), (1, 4)]):
            for first, last in itertools.product(range(4), repeat=2):
                for seats in ([1] * 6, [2, 1, 1, 1, 1, 2], [0, 1, 0, 1, 0, 1]):
                    self.check((seats, [first, 0, 0, 0, 0, last], pairs), range(sum(seats) + 2))
                    self.check((seats, [0, first, 0, 0, last, 0], pairs), range(sum(seats) + 2))


if __name__ == "__main__":
    unittest.main()

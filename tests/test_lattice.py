"""Join and meet of best allocations (point 2) and of separated allocations (point 3)."""

import itertools
import random
import unittest

from drawing import draw_planner
from sessions import (
    ask_behind, build, every_allocation, is_separated, join_of, meet_of, search_best, search_valid, seats_of,
)


class Lattice(unittest.TestCase):
    def combine(self, planner, couples):
        """The joins and the meets of the couples, as the program answers them, without the number of blocks."""
        answered = []
        for name, due_of in (("join", join_of), ("meet", meet_of)):
            given = ask_behind(build(*planner), [(name, first, second) for first, second in couples])
            due = [[len(planner[0]), *due_of(first, second)] for first, second in couples]
            self.assertEqual(given, due, planner)
            answered.append([uses[1:] for uses in given])
        return answered

    def check_lattice(self, planner, couples):
        """Point 2, by the program's own is_valid and sold_seats."""
        calls = build(*planner)
        most = search_best(*planner)[0]
        for combined in self.combine(planner, couples):
            valid = ask_behind(calls, [("is_valid", uses) for uses in combined])
            self.assertEqual(valid, [[1]] * len(couples), planner)
            sold = ask_behind(calls, [("sold_seats", uses) for uses in combined])
            self.assertEqual([part[0] for part in sold], [most] * len(couples), planner)

    def check_conservation(self, planner, couples):
        """Point 3: separated, and as many seats sold in the two combined ones as in the two handed in."""
        calls = build(*planner)
        sides = [[first for first, _ in couples], [second for _, second in couples], *self.combine(planner, couples)]
        for combined in sides[2:]:
            self.assertTrue(all(is_separated(uses, planner[2]) for uses in combined), planner)
        sold = []
        for side in sides:
            given = ask_behind(calls, [("sold_seats", uses) for uses in side])
            sold.append([part[0] for part in given])
        for first, second, join, meet in zip(*sold):
            self.assertEqual(first + second, join + meet, planner)

    def best_ones(self, planner):
        """All valid allocations that sell the most seats."""
        valid = search_valid(*planner)
        most = search_best(*planner)[0]
        return [uses for uses in valid if seats_of(planner[0], uses, 1, 2) == most]

    def test_best_allocations_of_drawn_planners(self):
        draw = random.Random(2)
        many = 0
        for turn in range(300):
            planner = draw_planner(draw, (2, 3, 4, 5, 6))
            best = self.best_ones(planner)
            many += len(best) > 2
            couples = list(itertools.product(best, repeat=2))
            self.check_lattice(planner, draw.sample(couples, min(len(couples), 60)))
        self.assertGreater(many, 60)

    def test_best_allocations_of_like_blocks(self):
        path = [(block, block + 1) for block in range(5)]
        for pairs in (path, path + [(0, 5)], path + [(0, 3), (1, 4)], [(0, 1), (2, 3), (4, 5)]):
            for first, last in itertools.product((0, 1, 2), repeat=2):
                planner = ([1, 1, 1, 1, 1, 1], [first, 0, 0, 0, 0, last], pairs)
                best = self.best_ones(planner)
                self.check_lattice(planner, list(itertools.product(best, repeat=2)))

    def test_separated_allocations_of_small_planners(self):
        for pairs in ([], [(0, 1)], [(0, 1), (1, 2)], [(0, 1), (1, 2), (0, 2)]):
            for assignments in ([0, 0, 0], [1, 2, 3]):
                planner = ([1, 4, 16], assignments, pairs)
                separated = [uses for uses in every_allocation(3) if is_separated(uses, pairs)]
                self.check_conservation(planner, list(itertools.product(separated, repeat=2)))

    def test_separated_allocations_of_drawn_planners(self):
        draw = random.Random(3)
        for turn in range(150):
            planner = draw_planner(draw, (4, 5, 6))
            separated = [uses for uses in every_allocation(len(planner[0])) if is_separated(uses, planner[2])]
            couples = [(draw.choice(separated), draw.choice(separated)) for _ in range(80)]
            self.check_conservation(planner, couples)


if __name__ == "__main__":
    unittest.main()

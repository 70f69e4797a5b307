"""best_allocation and empty_seats against a plain search over all allocations."""

import itertools
import random
import unittest

from sessions import ask, build, search_best, search_empty


class Search(unittest.TestCase):
    def check(self, seats, assignments, pairs):
        given = ask(*build(seats, assignments, pairs), ("best_allocation",), ("empty_seats",))[-2:]
        due = [search_best(seats, assignments, pairs), search_empty(seats, assignments, pairs)]
        self.assertEqual(given, due, (seats, assignments, pairs))
        rivals_meet = any({assignments[i], assignments[j]} == {1, 2} for i, j in pairs)
        self.assertEqual(given[0] == [-33], rivals_meet, (seats, assignments, pairs))

    def test_all_small_planners(self):
        for count in range(4):
            ways = list(itertools.combinations(range(count), 2))
            for assignments in itertools.product(range(4), repeat=count):
                for chosen in itertools.product((False, True), repeat=len(ways)):
                    pairs = [pair for pair, there in zip(ways, chosen) if there]
                    for seats in ([1, 1, 1], [1, 2, 3], [3, 2, 2], [0, 1, 0]):
                        self.check(seats[:count], assignments, pairs)

    def test_planners_of_up_to_six_blocks(self):
        draw = random.Random(6)
        for turn in range(1500):
            count = draw.choice((4, 5, 6))
            seats = [draw.randint(0, draw.choice((2, 9, 99))) for _ in range(count)]
            assignments = [draw.choice((0, 0, 0, 0, 1, 2, 3)) for _ in range(count)]
            share = draw.random()
            pairs = [pair for pair in itertools.combinations(range(count), 2) if draw.random() < share]
            self.check(seats, assignments, pairs)

    def test_paths_and_rings_of_like_blocks(self):
        path = [(block, block + 1) for block in range(5)]
        for pairs in (path, path + [(0, 5)], path + [(0, 3), (1, 4)]):
            for first, last in itertools.product(range(4), repeat=2):
                for seats in ([1] * 6, [2, 1, 1, 1, 1, 2], [0, 1, 0, 1, 0, 1]):
                    self.check(seats, [first, 0, 0, 0, 0, last], pairs)
                    self.check(seats, [0, first, 0, 0, last, 0], pairs)


if __name__ == "__main__":
    unittest.main()

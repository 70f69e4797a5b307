"""The calls that only ask: list_blocks, neighbors, best_allocation and empty_seats."""

import unittest

from sessions import LARGEST, ask, ask_last, build, view


class ListBlocks(unittest.TestCase):
    def test_no_blocks(self):
        self.assertEqual(ask_last(("create",), ("list_blocks",)), [0])

    def test_seats_and_assignment_of_each(self):
        calls = build([0, 99, 5, 6, 7, 8], [3, 2, 1, 0, 1, 2])
        self.assertEqual(ask_last(*calls, ("list_blocks",)), [6, 0, 3, 99, 2, 5, 1, 6, 0, 7, 1, 8, 2])


class Neighbors(unittest.TestCase):
    def test_none(self):
        self.assertEqual(ask(*build([1, 2, 3], None, [(0, 2)]), *view(3))[-3:], [[1, 2], [0], [1, 0]])

    def test_in_increasing_order(self):
        calls = build([1] * 6, None, [(3, 5), (3, 0), (4, 3), (1, 3), (0, 5)])
        self.assertEqual(ask_last(*calls, ("neighbors", 3)), [4, 0, 1, 4, 5])
        self.assertEqual(ask_last(*calls, ("neighbors", 2)), [0])
        self.assertEqual(ask_last(*calls, ("neighbors", 5)), [2, 0, 3])

    def test_no_such_block(self):
        for count in range(7):
            for block in (count, count + 1, 100, LARGEST):
                with self.subTest(count=count, block=block):
                    self.assertEqual(ask_last(*build([1] * count), ("neighbors", block)), [-2])


class Best(unittest.TestCase):
    def check(self, calls, best, empty):
        given = ask(*calls, ("best_allocation",), ("empty_seats",))
        self.assertEqual(given[-2:], [best, empty])

    def test_no_blocks(self):
        self.check(build([]), [0], [0])
        self.check([*build([5], [1]), ("remove_last_block",)], [0], [0])

    def test_each_assignment_alone(self):
        self.check(build([5], [0]), [5, 1], [0])
        self.check(build([5], [1]), [5, 1], [0])
        self.check(build([5], [2]), [5, 2], [0])
        self.check(build([5], [3]), [0, 0], [5])

    def test_the_smallest_of_several(self):
        self.check(build([4, 4], None, [(0, 1)]), [8, 1, 1], [0])
        self.check(build([4, 4, 4], [1, 0, 2], [(0, 1), (1, 2)]), [8, 1, 0, 2], [4])
        self.check(build([4, 4, 4, 4], [1, 0, 0, 2], [(0, 1), (1, 2), (2, 3)]), [12, 1, 0, 2, 2], [4])
        self.check(build([4, 4, 4, 4], [2, 0, 0, 1], [(0, 1), (1, 2), (2, 3)]), [12, 2, 0, 1, 1], [4])

    def test_the_smallest_doesnt_sell_fewer(self):
        self.check(build([4, 4, 3, 4], [1, 0, 0, 2], [(0, 1), (1, 2), (2, 3)]), [12, 1, 1, 0, 2], [3])

    def test_blocks_without_seats(self):
        self.check(build([0]), [0, 0], [0])
        self.check(build([0], [1]), [0, 1], [0])
        self.check(build([0], [2]), [0, 2], [0])
        self.check(build([0, 0, 0], [0, 3, 0], [(0, 2)]), [0, 0, 0, 0], [0])
        self.check(build([5, 0, 6], None, [(0, 1), (1, 2)]), [11, 1, 0, 1], [0])
        self.check(build([0, 8], [1, 0], [(0, 1)]), [8, 1, 1], [0])

    def test_a_block_without_seats_can_separate(self):
        self.check(build([5, 0, 6], [1, 0, 2], [(0, 1), (1, 2)]), [11, 1, 0, 2], [0])

    def test_an_assigned_block_is_used_though_it_costs_seats(self):
        self.check(build([1, 50, 50, 1], [1, 0, 0, 2], [(0, 1), (0, 2), (1, 3), (2, 3)]), [2, 1, 0, 0, 2], [100])

    def test_a_closed_block_separates(self):
        self.check(build([5, 7, 6], [1, 3, 2], [(0, 1), (1, 2)]), [11, 1, 0, 2], [7])

    def test_away_where_home_sells_fewer(self):
        self.check(build([9, 5, 5], [0, 2, 2], [(0, 1), (0, 2)]), [19, 2, 2, 2], [0])
        self.check(build([5, 9, 2], [0, 0, 2], [(0, 1), (1, 2)]), [16, 2, 2, 2], [0])

    def test_no_valid_allocation(self):
        self.check(build([4, 5], [1, 2], [(0, 1)]), [-33], [-33])
        self.check(build([0, 0], [2, 1], [(1, 0)]), [-33], [-33])
        self.check(build([4, 5, 6, 7, 8, 9], [0, 2, 0, 0, 0, 1], [(5, 1)]), [-33], [-33])

    def test_rivals_that_are_not_adjacent(self):
        self.check(build([4, 5], [1, 2]), [9, 1, 2], [0])

    def test_the_most_seats_there_can_be(self):
        self.check(build([99] * 6), [594, 1, 1, 1, 1, 1, 1], [0])
        self.check(build([99] * 6, [3] * 6), [0, 0, 0, 0, 0, 0, 0], [594])

    def test_asking_changes_nothing(self):
        for pairs in ([(0, 1), (1, 2)], [(0, 2)]):
            calls = build([4, 5, 6], [1, 0, 2], pairs)
            asked = [*view(3), ("best_allocation",), ("empty_seats",), ("neighbors", 3)]
            given = ask(*calls, *asked, *asked)[len(calls):]
            self.assertEqual(given[:len(asked)], given[len(asked):])


if __name__ == "__main__":
    unittest.main()

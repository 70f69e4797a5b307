"""The calls that change a planner: what they answer, refuse, and leave behind."""

import unittest

from sessions import LARGEST, RefusalTest, ask, ask_last, build, view

FULL = [11, 12, 13, 14, 15, 16]


class AddBlock(RefusalTest):
    def test_numbers_in_order(self):
        self.assertEqual(ask(*build(FULL)), [[0], [0], [1], [2], [3], [4], [5]])

    def test_a_new_block_has_its_seats_and_nothing_else(self):
        calls = build([4, 5], [1, 2], [(0, 1)])
        given = ask(*calls, ("add_block", 6), *view(3))
        self.assertEqual(given[len(calls):], [[2], [3, 4, 1, 5, 2, 6, 0], [1, 1], [1, 0], [0]])

    def test_seats_at_the_edges(self):
        self.assertEqual(ask(*build([0, 99]), ("list_blocks",))[1:], [[0], [1], [2, 0, 0, 99, 0]])

    def test_too_many_seats(self):
        for seats in (100, 101, 65536, LARGEST):
            self.check_refused(build([7]), ("add_block", seats), -22, 1)
            self.check_refused(build([]), ("add_block", seats), -22, 0)

    def test_the_seventh_block(self):
        for seats in (0, 1, 99):
            self.check_refused(build(FULL, [1, 2, 3, 0, 1, 2], [(0, 2), (4, 5)]), ("add_block", seats), -28, 6)

    def test_seats_are_checked_before_the_number_of_blocks(self):
        for seats in (100, LARGEST):
            self.check_refused(build(FULL), ("add_block", seats), -22, 6)

    def test_refused_seats_take_no_number(self):
        self.assertEqual(ask(("create",), ("add_block", 100), ("add_block", 99)), [[0], [-22], [0]])

    def test_the_seventh_block_after_a_removed_one(self):
        given = ask(*build(FULL), ("remove_last_block",), ("add_block", 9), ("add_block", 9))
        self.assertEqual(given[-3:], [[5], [5], [-28]])


class RemoveLastBlock(RefusalTest):
    def test_how_many_are_left(self):
        calls = build(FULL)
        given = ask(*calls, *[("remove_last_block",)] * 7)
        self.assertEqual(given[len(calls):], [[5], [4], [3], [2], [1], [0], [-6]])

    def test_the_last_block_goes(self):
        self.assertEqual(ask_last(*build([4, 5, 6], [1, 3, 2]), ("remove_last_block",), ("list_blocks",)),
                         [2, 4, 1, 5, 3])

    def test_no_blocks(self):
        self.check_refused(build([]), ("remove_last_block",), -6, 0)
        self.check_refused([*build([4]), ("remove_last_block",)], ("remove_last_block",), -6, 0)

    def test_the_removed_block_is_no_block(self):
        given = ask(*build([4, 5]), ("remove_last_block",), ("neighbors", 1), ("set_seats", 1, 1), ("connect", 0, 1))
        self.assertEqual(given[-3:], [[-2], [-2], [-2]])

    def test_adjacencies_of_the_last_block_alone_go(self):
        calls = build([1, 2, 3, 4], None, [(0, 3), (0, 1), (3, 1), (1, 2), (2, 3), (2, 0)])
        given = ask(*calls, ("remove_last_block",), *view(3), ("disconnect", 0, 1))
        self.assertEqual(given[len(calls):],
                         [[3], [3, 1, 0, 2, 0, 3, 0], [2, 1, 2], [2, 0, 2], [2, 0, 1], [2]])

    def test_a_block_added_again_is_new(self):
        calls = build([1, 2, 3], [1, 0, 2], [(0, 1), (0, 2), (2, 1)])
        given = ask(*calls, ("remove_last_block",), ("add_block", 9), *view(3), ("disconnect", 1, 2), ("connect", 2, 1))
        self.assertEqual(given[len(calls):],
                         [[2], [2], [3, 1, 1, 2, 0, 9, 0], [1, 1], [1, 0], [0], [-6], [2]])


class SetSeats(RefusalTest):
    def test_the_previous_number_is_answered(self):
        given = ask(*build([4, 5]), ("set_seats", 1, 7), ("set_seats", 1, 8), ("set_seats", 1, 8), ("list_blocks",))
        self.assertEqual(given[-4:], [[5], [7], [8], [2, 4, 0, 8, 0]])

    def test_nothing_but_the_seats_changes(self):
        calls = build([4, 5, 6], [1, 2, 3], [(0, 1), (1, 2)])
        given = ask(*calls, ("set_seats", 0, 40), *view(3))
        self.assertEqual(given[len(calls):], [[4], [3, 40, 1, 5, 2, 6, 3], [1, 1], [2, 0, 2], [1, 1]])

    def test_seats_at_the_edges(self):
        given = ask(*build([4]), ("set_seats", 0, 0), ("set_seats", 0, 99), ("set_seats", 0, 0))
        self.assertEqual(given[-3:], [[4], [0], [99]])

    def test_too_many_seats(self):
        for seats in (100, 101, LARGEST):
            for block in (0, 1):
                self.check_refused(build([4, 5]), ("set_seats", block, seats), -22, 2)

    def test_no_such_block(self):
        for block in (2, 3, 6, LARGEST):
            self.check_refused(build([4, 5]), ("set_seats", block, 1), -2, 2)
        self.check_refused(build([]), ("set_seats", 0, 1), -2, 0)
        self.check_refused(build(FULL), ("set_seats", 6, 1), -2, 6)

    def test_the_block_is_checked_before_the_seats(self):
        for block in (2, LARGEST):
            for seats in (100, LARGEST):
                self.check_refused(build([4, 5]), ("set_seats", block, seats), -2, 2)

    def test_the_best_allocation_follows(self):
        calls = build([4, 5], [1, 0])
        given = ask(*calls, ("best_allocation",), ("set_seats", 1, 0), ("best_allocation",))
        self.assertEqual(given[len(calls):], [[9, 1, 1], [5], [4, 1, 0]])


class Assign(RefusalTest):
    def test_the_previous_assignment_is_answered(self):
        calls = build([4, 5])
        steps = [("assign", 1, assignment) for assignment in (1, 2, 3, 3, 0, 3)]
        self.assertEqual(ask(*calls, *steps)[len(calls):], [[0], [1], [2], [3], [3], [0]])

    def test_nothing_but_the_assignment_changes(self):
        calls = build([4, 5, 6], [1, 2, 3], [(0, 1), (1, 2)])
        given = ask(*calls, ("assign", 1, 0), *view(3))
        self.assertEqual(given[len(calls):], [[2], [3, 4, 1, 5, 0, 6, 3], [1, 1], [2, 0, 2], [1, 1]])

    def test_each_assignment_is_kept(self):
        self.assertEqual(ask_last(*build([4, 5, 6, 7], [3, 2, 1, 0]), ("list_blocks",)), [4, 4, 3, 5, 2, 6, 1, 7, 0])

    def test_no_such_assignment(self):
        for assignment in (4, 5, 100, LARGEST):
            for block in (0, 1):
                self.check_refused(build([4, 5], [1, 2]), ("assign", block, assignment), -22, 2)

    def test_no_such_block(self):
        for block in (2, 3, 6, LARGEST):
            self.check_refused(build([4, 5]), ("assign", block, 1), -2, 2)
        self.check_refused(build([]), ("assign", 0, 1), -2, 0)
        self.check_refused(build(FULL), ("assign", 6, 3), -2, 6)

    def test_the_block_is_checked_before_the_assignment(self):
        for block in (2, LARGEST):
            for assignment in (4, LARGEST):
                self.check_refused(build([4, 5]), ("assign", block, assignment), -2, 2)

    def test_rivals_may_be_adjacent(self):
        self.assertEqual(ask(*build([4, 5], [1, 2], [(0, 1)])), [[0], [0], [1], [0], [0], [1]])


class Connect(RefusalTest):
    def test_the_number_of_pairs_is_answered(self):
        calls = build([1, 2, 3])
        given = ask(*calls, ("connect", 0, 1), ("connect", 2, 1), ("connect", 2, 0), *view(3)[1:])
        self.assertEqual(given[len(calls):], [[1], [2], [3], [2, 1, 2], [2, 0, 2], [2, 0, 1]])

    def test_all_pairs_of_six_blocks(self):
        pairs = [(i, j) for i in range(6) for j in range(i)]
        given = ask(*build(FULL, None, pairs), *view(6)[1:])
        self.assertEqual(given[7:22], [[count] for count in range(1, 16)])
        self.assertEqual(given[22:], [[5] + [other for other in range(6) if other != block] for block in range(6)])

    def test_both_blocks_see_it(self):
        for i, j in ((0, 1), (1, 0)):
            self.assertEqual(ask(*build([1, 2], None, [(i, j)]), *view(2))[-2:], [[1, 1], [1, 0]])

    def test_already_adjacent(self):
        before = build([1, 2, 3], [0, 1, 2], [(0, 1), (2, 1)])
        for i, j in ((0, 1), (1, 0), (1, 2), (2, 1)):
            self.check_refused(before, ("connect", i, j), -17, 3)

    def test_a_block_with_itself(self):
        for block in (0, 1):
            self.check_refused(build([1, 2], None, [(0, 1)]), ("connect", block, block), -22, 2)

    def test_no_such_block(self):
        for i, j in ((0, 2), (2, 0), (1, LARGEST), (LARGEST, 1), (2, 3), (LARGEST, 2)):
            self.check_refused(build([1, 2]), ("connect", i, j), -2, 2)
        self.check_refused(build(FULL), ("connect", 5, 6), -2, 6)
        self.check_refused(build(FULL), ("connect", 6, 5), -2, 6)

    def test_the_blocks_are_checked_before_their_likeness(self):
        for block in (2, 6, LARGEST):
            self.check_refused(build([1, 2]), ("connect", block, block), -2, 2)
        self.check_refused(build([]), ("connect", 0, 0), -2, 0)


class Disconnect(RefusalTest):
    def test_the_number_of_pairs_is_answered(self):
        calls = build([1, 2, 3], None, [(0, 1), (1, 2), (0, 2)])
        given = ask(*calls, ("disconnect", 1, 2), ("disconnect", 1, 0), *view(3)[1:], ("disconnect", 0, 2))
        self.assertEqual(given[len(calls):], [[2], [1], [1, 2], [0], [1, 0], [0]])

    def test_in_both_orders(self):
        for pair in ((0, 1), (1, 0)):
            for i, j in ((0, 1), (1, 0)):
                given = ask(*build([1, 2], None, [pair]), ("disconnect", i, j), *view(2)[1:])
                self.assertEqual(given[-3:], [[0], [0], [0]])

    def test_connected_again(self):
        given = ask(*build([1, 2], None, [(0, 1)]), ("disconnect", 0, 1), ("connect", 0, 1), ("neighbors", 0))
        self.assertEqual(given[-3:], [[0], [1], [1, 1]])

    def test_not_adjacent(self):
        before = build([1, 2, 3], [0, 1, 2], [(0, 1), (1, 2)])
        for i, j in ((0, 2), (2, 0)):
            self.check_refused(before, ("disconnect", i, j), -6, 3)
        self.check_refused([*before, ("disconnect", 0, 1)], ("disconnect", 0, 1), -6, 3)

    def test_a_block_with_itself(self):
        for block in (0, 1):
            self.check_refused(build([1, 2], None, [(0, 1)]), ("disconnect", block, block), -6, 2)

    def test_no_such_block(self):
        for i, j in ((0, 2), (2, 0), (1, LARGEST), (LARGEST, 1), (2, 3), (LARGEST, 2)):
            self.check_refused(build([1, 2]), ("disconnect", i, j), -2, 2)
        self.check_refused(build(FULL), ("disconnect", 5, 6), -2, 6)

    def test_the_blocks_are_checked_before_their_adjacency(self):
        for block in (2, 6, LARGEST):
            self.check_refused(build([1, 2]), ("disconnect", block, block), -2, 2)
        self.check_refused(build([]), ("disconnect", 0, 0), -2, 0)

    def test_the_best_allocation_follows(self):
        calls = build([4, 5], [2, 1], [(0, 1)])
        given = ask(*calls, ("best_allocation",), ("disconnect", 1, 0), ("best_allocation",))
        self.assertEqual(given[len(calls):], [[-33], [0], [9, 2, 1]])


class SwapTeams(RefusalTest):
    def test_home_and_away_are_exchanged(self):
        calls = build([4, 5, 6, 7], [0, 1, 2, 3], [(0, 1), (2, 3)])
        given = ask(*calls, ("swap_teams",), *view(4))
        self.assertEqual(given[len(calls):],
                         [[4], [4, 4, 0, 5, 2, 6, 1, 7, 3], [1, 1], [1, 0], [1, 3], [1, 2]])

    def test_twice_is_as_before(self):
        calls = build([4, 5, 6], [2, 2, 1])
        self.assertEqual(ask_last(*calls, ("swap_teams",), ("swap_teams",), ("list_blocks",)),
                         [3, 4, 2, 5, 2, 6, 1])

    def test_the_number_of_blocks_is_answered(self):
        for count in range(7):
            self.assertEqual(ask_last(*build([1] * count), ("swap_teams",)), [count])

    def test_the_best_allocation_follows(self):
        calls = build([4, 5, 6], [1, 0, 2], [(0, 1)])
        given = ask(*calls, ("best_allocation",), ("swap_teams",), ("best_allocation",))
        self.assertEqual(given[len(calls):], [[15, 1, 1, 2], [3], [15, 2, 2, 1]])


if __name__ == "__main__":
    unittest.main()

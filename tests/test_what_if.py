"""sold_if_assigned, sold_if_closed and count_valid."""

import unittest

from sessions import LARGEST, RefusalTest, ask, ask_last, build, view

FULL = [11, 12, 13, 14, 15, 16]
RIVALS = build([4, 5, 6], [1, 2, 0], [(0, 1), (1, 2)])


class SoldIfAssigned(RefusalTest):
    def check(self, calls, block, *due):
        """What is due for the assignments 0, 1, 2 and 3 of the block."""
        given = ask(*calls, *[("sold_if_assigned", block, assignment) for assignment in range(4)])
        self.assertEqual(given[len(calls):], [[number] for number in due])

    def test_one_block(self):
        for assignment in range(4):
            self.check(build([5], [assignment]), 0, 5, 5, 5, 0)
            self.check(build([0], [assignment]), 0, 0, 0, 0, 0)

    def test_between_two_sides(self):
        calls = build([10, 5, 8], [1, 0, 2], [(0, 1), (1, 2)])
        self.check(calls, 0, 23, 18, 23, 13)
        self.check(calls, 1, 18, -33, -33, 18)
        self.check(calls, 2, 23, 23, 18, 15)

    def test_a_new_assignment_that_makes_it_impossible(self):
        calls = build([4, 5], [1, 0], [(0, 1)])
        self.check(calls, 1, 9, 9, -33, 4)
        self.check(build([4, 5], [0, 2], [(0, 1)]), 0, 9, -33, 9, 5)

    def test_a_new_assignment_that_makes_it_possible(self):
        calls = build([4, 5], [1, 2], [(0, 1)])
        self.check(calls, 0, 9, -33, 9, 5)
        self.check(calls, 1, 9, 9, -33, 4)

    def test_it_stays_impossible(self):
        calls = build([4, 5, 6, 7], [1, 2, 0, 1], [(0, 1), (1, 3)])
        for block in range(4):
            if block != 1:
                self.check(calls, block, -33, -33, -33, -33)
        self.check(calls, 1, 22, 22, -33, 17)

    def test_the_assignment_that_it_has(self):
        calls = build([4, 5, 6, 7], [1, 3, 0, 2], [(0, 1), (1, 2), (2, 3)])
        given = ask(*calls, *[("sold_if_assigned", block, use) for block, use in enumerate((1, 3, 0, 2))])
        self.assertEqual(given[len(calls):], [[17]] * 4)

    def test_no_such_block(self):
        for block in (3, 4, 6, LARGEST):
            for assignment in (0, 1, 2, 3):
                self.check_refused(build([4, 5, 6]), ("sold_if_assigned", block, assignment), -2, 3)
        self.check_refused(build([]), ("sold_if_assigned", 0, 0), -2, 0)
        self.check_refused(build(FULL), ("sold_if_assigned", 6, 3), -2, 6)

    def test_no_such_assignment(self):
        for assignment in (4, 5, 100, LARGEST):
            for block in (0, 1, 2):
                self.check_refused(build([4, 5, 6]), ("sold_if_assigned", block, assignment), -22, 3)

    def test_the_block_is_checked_before_the_assignment(self):
        for block in (3, LARGEST):
            for assignment in (4, LARGEST):
                self.check_refused(build([4, 5, 6]), ("sold_if_assigned", block, assignment), -2, 3)
                self.check_refused(RIVALS, ("sold_if_assigned", block, assignment), -2, 3)

    def test_both_are_checked_before_the_search(self):
        self.check_refused(RIVALS, ("sold_if_assigned", 3, 0), -2, 3)
        self.check_refused(RIVALS, ("sold_if_assigned", LARGEST, 1), -2, 3)
        self.check_refused(RIVALS, ("sold_if_assigned", 2, 4), -22, 3)
        self.check_refused(RIVALS, ("sold_if_assigned", 0, LARGEST), -22, 3)

    def test_no_valid_allocation(self):
        for block, assignment in ((0, 1), (1, 2), (2, 0), (2, 1), (2, 2), (2, 3)):
            self.check_refused(RIVALS, ("sold_if_assigned", block, assignment), -33, 3)
        self.check_refused(build([4, 5], [1, 0], [(0, 1)]), ("sold_if_assigned", 1, 2), -33, 2)

    def test_the_block_is_as_before(self):
        for calls in (RIVALS, build([4, 5, 6], [0, 3, 2], [(0, 2)])):
            shown = [*view(3), ("get_state",), ("best_allocation",), ("count_valid",), ("max_away",)]
            kept = ask(*calls, *shown)[len(calls):]
            for block in range(3):
                for assignment in range(4):
                    given = ask(*calls, ("sold_if_assigned", block, assignment), *shown)
                    self.assertEqual(given[len(calls) + 1:], kept)

    def test_like_an_assignment_that_is_made(self):
        calls = build([9, 5, 7, 3], [1, 0, 2, 0], [(0, 1), (1, 2), (2, 3), (0, 3)])
        for block in range(4):
            for assignment in range(4):
                given = ask(*calls, ("sold_if_assigned", block, assignment), ("assign", block, assignment),
                            ("best_allocation",))
                self.assertEqual(given[-3], given[-1][:1])


class SoldIfClosed(RefusalTest):
    def test_each_block(self):
        calls = build([10, 5, 8], [1, 0, 2], [(0, 1), (1, 2)])
        self.assertEqual(ask(*calls, *[("sold_if_closed", block) for block in range(3)])[-3:], [[13], [18], [15]])

    def test_a_closed_block_lets_its_neighbors_apart(self):
        calls = build([5, 9, 6, 2], [1, 2, 1, 0], [(0, 1), (1, 2), (2, 3)])
        given = ask(*calls, *[("sold_if_closed", block) for block in range(4)])
        self.assertEqual(given[-4:], [[-33], [13], [-33], [-33]])

    def test_one_block(self):
        for assignment in range(4):
            self.assertEqual(ask_last(*build([5], [assignment]), ("sold_if_closed", 0)), [0])

    def test_the_same_as_assigned_closed(self):
        for calls in (RIVALS, build([9, 5, 7], [1, 0, 2], [(0, 1), (1, 2)]), build([0, 99, 3], [3, 0, 1])):
            for block in (0, 1, 2, 3, LARGEST):
                given = ask(*calls, ("sold_if_closed", block), ("sold_if_assigned", block, 3))
                self.assertEqual(given[-2], given[-1])

    def test_no_such_block(self):
        for block in (3, 4, LARGEST):
            self.check_refused(build([4, 5, 6]), ("sold_if_closed", block), -2, 3)
            self.check_refused(RIVALS, ("sold_if_closed", block), -2, 3)
        self.check_refused(build([]), ("sold_if_closed", 0), -2, 0)
        self.check_refused(build(FULL), ("sold_if_closed", 6), -2, 6)

    def test_no_valid_allocation(self):
        self.check_refused(RIVALS, ("sold_if_closed", 2), -33, 3)
        self.check_refused(build([1, 2, 3, 4], [1, 2, 2, 1], [(0, 1), (2, 3)]), ("sold_if_closed", 0), -33, 4)

    def test_the_block_is_as_before(self):
        calls = build([4, 5, 6], [1, 0, 2], [(0, 1), (1, 2)])
        shown = [*view(3), ("get_state",), ("best_allocation",)]
        kept = ask(*calls, *shown)[len(calls):]
        for block in range(3):
            self.assertEqual(ask(*calls, ("sold_if_closed", block), *shown)[len(calls) + 1:], kept)


class CountValid(unittest.TestCase):
    def check(self, calls, due):
        self.assertEqual(ask_last(*calls, ("count_valid",)), [due])

    def test_no_blocks(self):
        self.check(build([]), 1)
        self.check([*build([5], [1]), ("remove_last_block",)], 1)

    def test_each_assignment(self):
        for assignment, due in ((0, 3), (1, 1), (2, 1), (3, 1)):
            self.check(build([5], [assignment]), due)
            self.check(build([0], [assignment]), due)

    def test_separated(self):
        self.check(build([1, 1]), 9)
        self.check(build([1, 1], None, [(0, 1)]), 7)
        self.check(build([1, 1], [1, 0], [(0, 1)]), 2)
        self.check(build([1, 1], [3, 0], [(0, 1)]), 3)
        self.check(build([1, 1, 1], [1, 0, 2], [(0, 1), (1, 2)]), 1)
        self.check(build([1, 1, 1], None, [(0, 1), (1, 2)]), 17)

    def test_six_blocks(self):
        pairs = [(i, j) for i in range(6) for j in range(i)]
        self.check(build([9] * 6), 729)
        self.check(build([0] * 6), 729)
        self.check(build([9] * 6, None, pairs), 2 ** 7 - 1)
        self.check(build([9] * 6, [3] * 6, pairs), 1)

    def test_no_valid_allocation(self):
        self.check(RIVALS, 0)
        self.check(build([0, 0], [2, 1], [(1, 0)]), 0)


if __name__ == "__main__":
    unittest.main()

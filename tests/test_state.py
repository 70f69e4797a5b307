"""get_state behind each kind of change."""

import unittest

from sessions import ask, build

STATE = ("get_state",)


class GetState(unittest.TestCase):
    def check(self, calls, *steps):
        """Each step is a change and the state that is due behind it."""
        asked = []
        for change, _ in steps:
            asked += [change, STATE]
        given = ask(*calls, *asked)[len(calls):]
        self.assertEqual(given[1::2], [list(due) for _, due in steps])

    def test_no_blocks(self):
        self.assertEqual(ask(("create",), STATE), [[0], [0, 0, 0]])

    def test_blocks_pairs_and_seats(self):
        calls = build([0, 99, 5, 6], [3, 0, 1, 2], [(0, 1), (3, 1)])
        self.assertEqual(ask(*calls, STATE)[-1], [4, 2, 110])

    def test_add_block(self):
        self.check(build([]),
                   (("add_block", 5), (1, 0, 5)), (("add_block", 0), (2, 0, 5)), (("add_block", 100), (2, 0, 5)),
                   (("add_block", 99), (3, 0, 104)))
        self.check(build([99] * 5, None, [(0, 1)]), (("add_block", 99), (6, 1, 594)), (("add_block", 1), (6, 1, 594)))

    def test_remove_last_block(self):
        calls = build([1, 2, 4, 8], None, [(0, 3), (1, 3), (0, 1), (1, 2), (2, 3)])
        remove = ("remove_last_block",)
        self.check(calls, (remove, (3, 2, 7)), (remove, (2, 1, 3)), (remove, (1, 0, 1)), (remove, (0, 0, 0)),
                   (remove, (0, 0, 0)))

    def test_a_block_added_again(self):
        calls = build([1, 2, 4], None, [(0, 2), (2, 1)])
        self.check(calls, (("remove_last_block",), (2, 0, 3)), (("add_block", 9), (3, 0, 12)),
                   (("connect", 2, 0), (3, 1, 12)))

    def test_set_seats(self):
        calls = build([1, 2], None, [(0, 1)])
        self.check(calls, (("set_seats", 0, 99), (2, 1, 101)), (("set_seats", 1, 0), (2, 1, 99)),
                   (("set_seats", 1, 100), (2, 1, 99)), (("set_seats", 2, 5), (2, 1, 99)))

    def test_assign(self):
        calls = build([1, 2], None, [(0, 1)])
        self.check(calls, *[(("assign", 1, assignment), (2, 1, 3)) for assignment in range(5)])

    def test_connect_and_disconnect(self):
        calls = build([1, 2, 4])
        self.check(calls, (("connect", 0, 1), (3, 1, 7)), (("connect", 2, 1), (3, 2, 7)),
                   (("connect", 1, 2), (3, 2, 7)), (("connect", 1, 1), (3, 2, 7)),
                   (("disconnect", 1, 0), (3, 1, 7)), (("disconnect", 1, 0), (3, 1, 7)),
                   (("disconnect", 2, 1), (3, 0, 7)))

    def test_all_pairs(self):
        pairs = [(i, j) for i in range(6) for j in range(i)]
        self.check(build([1] * 6), *[(("connect", *pair), (6, k + 1, 6)) for k, pair in enumerate(pairs)])

    def test_swap_teams_and_fix_best(self):
        calls = build([1, 2, 4], [1, 0, 2], [(0, 1), (1, 2)])
        self.check(calls, (("swap_teams",), (3, 2, 7)), (("fix_best",), (3, 2, 7)))

    def test_create(self):
        self.check(build([1, 2], None, [(0, 1)]), (("create",), (0, 0, 0)))


if __name__ == "__main__":
    unittest.main()

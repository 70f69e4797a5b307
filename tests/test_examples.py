"""The document's examples, whole."""

import unittest

from sessions import ask


class Examples(unittest.TestCase):
    def check(self, *steps):
        calls = [call for call, _ in steps]
        self.assertEqual(ask(*calls), [due for _, due in steps])

    def test_a_block_between_two_sides(self):
        self.check(
            (("create",), [0]),
            (("add_block", 10), [0]),
            (("add_block", 5), [1]),
            (("add_block", 8), [2]),
            (("connect", 0, 1), [1]),
            (("connect", 1, 2), [2]),
            (("assign", 0, 1), [0]),
            (("assign", 2, 2), [0]),
            (("best_allocation",), [18, 1, 0, 2]),
            (("empty_seats",), [5]),
            (("count_valid",), [1]),
            (("sold_if_closed", 0), [13]),
            (("sold_if_assigned", 2, 0), [23]),
        )

    def test_two_best_allocations(self):
        self.check(
            (("create",), [0]),
            (("add_block", 4), [0]),
            (("add_block", 4), [1]),
            (("connect", 0, 1), [1]),
            (("best_allocation",), [8, 1, 1]),
            (("best_with_away", 1), [8, 2, 2]),
            (("join", [1, 1], [2, 2]), [2, 1, 1]),
            (("meet", [1, 1], [2, 2]), [2, 2, 2]),
            (("is_valid", [1, 2]), [0]),
            (("sold_seats", [1, 2]), [8, 4, 4]),
            (("fix_best",), [8]),
            (("max_away",), [0]),
        )

    def test_errors(self):
        self.check(
            (("create",), [0]),
            (("remove_last_block",), [-6]),
            (("add_block", 100), [-22]),
            (("add_block", 1), [0]),
            (("add_block", 1), [1]),
            (("connect", 0, 0), [-22]),
            (("connect", 0, 1), [1]),
            (("connect", 1, 0), [-17]),
            (("assign", 0, 1), [0]),
            (("assign", 1, 2), [0]),
            (("best_allocation",), [-33]),
            (("is_valid", [0]), [-22]),
        )


if __name__ == "__main__":
    unittest.main()

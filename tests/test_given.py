"""The calls about allocations that are handed in: is_valid, sold_seats, join and meet."""

import itertools
import unittest

from sessions import LARGEST_IN_LISTS, RefusalTest, ask, ask_behind, ask_last, build, every_allocation, flatten
from standblocks.planner import answers

PATH = [(0, 1), (1, 2)]


def wrong_lists(count):
    """Lists that are no allocation of so many blocks: by their length, by one number, by both."""
    lengths = [length for length in (0, 1, 2, 3, 4, 5, 6, 7, 8, 39, 40) if length != count]
    wrong = [[use] * length for length in lengths for use in (0, 2, 3)]
    for place in range(count):
        for number in (3, 4, 255, LARGEST_IN_LISTS):
            wrong.append([0] * place + [number] + [2] * (count - place - 1))
    wrong.append([LARGEST_IN_LISTS] * 40)
    return wrong


class WrongLists(RefusalTest):
    def test_each_wrong_list(self):
        for count in range(7):
            calls = build([9] * count)
            for name in ("is_valid", "sold_seats"):
                asked = [(name, given) for given in wrong_lists(count)]
                self.assertEqual(ask_behind(calls, asked), [[-22]] * len(asked), (name, count))

    def test_the_first_the_second_or_both_wrong(self):
        for count in range(7):
            calls = build([9] * count)
            right = [1] * count
            for name in ("join", "meet"):
                asked = []
                for wrong in wrong_lists(count):
                    asked += [(name, wrong, right), (name, right, wrong), (name, wrong, wrong)]
                self.assertEqual(ask_behind(calls, asked), [[-22]] * len(asked), (name, count))

    def test_two_lists_that_are_right_together(self):
        for name in ("join", "meet"):
            for first, second in (([1], [1, 1, 1]), ([1, 1, 1], [1]), ([], [1, 1, 1, 1]), ([1], [1]), ([], [])):
                self.assertEqual(ask_last(*build([5, 6]), (name, first, second)), [-22])

    def test_a_refusal_leaves_no_trace(self):
        before = build([5, 6, 7], [1, 0, 2], PATH)
        for wrong in ([], [0, 0], [0, 0, 0, 0], [0, 3, 0], [1] * 40, [LARGEST_IN_LISTS] * 3):
            for name in ("is_valid", "sold_seats"):
                self.check_refused(before, (name, wrong), -22, 3)
            for name in ("join", "meet"):
                self.check_refused(before, (name, wrong, [0, 0, 0]), -22, 3)
                self.check_refused(before, (name, [0, 0, 0], wrong), -22, 3)
                self.check_refused(before, (name, wrong, wrong), -22, 3)

    def test_a_wrong_list_where_no_allocation_is_valid(self):
        calls = build([5, 6], [1, 2], [(0, 1)])
        given = ask(*calls, ("is_valid", [1]), ("sold_seats", [3, 0]), ("join", [], []), ("meet", [1, 2], [1]))
        self.assertEqual(given[len(calls):], [[-22]] * 4)

    def test_the_length_follows_the_blocks(self):
        for name, lists in (("is_valid", 1), ("sold_seats", 1), ("join", 2), ("meet", 2)):
            one = (name, *[[1]] * lists)
            two = (name, *[[1, 1]] * lists)
            given = ask(*build([5]), one, two, ("add_block", 6), one, two, ("remove_last_block",), one, two)
            refused = [part == [-22] for part in given]
            self.assertEqual(refused[2:], [False, True, False, True, False, False, False, True], name)


class HowListsAreRead(unittest.TestCase):
    def test_each_list_has_its_length_before_it(self):
        calls = [0, 1, 4, 1, 5, 14, 2, 1, 2, 15, 2, 1, 2, 16, 2, 1, 0, 2, 2, 0, 17, 2, 1, 0, 2, 2, 0, 22]
        due = [1, 0, 1, 0, 1, 1, 1, 1, 3, 9, 4, 5, 3, 2, 1, 0, 3, 2, 2, 0, 3, 2, 0, 9]
        self.assertEqual(answers(calls), due)

    def test_the_call_behind_is_read_at_its_place(self):
        lists = [[], [0], [14, 1], [16, 0, 0], [0] * 6, [0, 1, 2] * 13, [22] * 40]
        for count in (0, 2, 3):
            calls = build([7] * count)
            state = [count, 0, 7 * count]
            for first in lists:
                for name in ("is_valid", "sold_seats"):
                    given = ask(*calls, (name, first), ("get_state",))
                    self.assertEqual(given[-1], state)
                for second in lists:
                    for name in ("join", "meet"):
                        given = ask(*calls, (name, first, second), ("get_state",))
                        self.assertEqual(given[-1], state)

    def test_lists_are_kept_apart(self):
        calls = build([1, 1])
        given = ask(*calls, ("join", [0, 1], [2, 0]), ("meet", [0, 1], [2, 0]), ("is_valid", [2, 2]))
        self.assertEqual(given[len(calls):], [[2, 0, 1], [2, 2, 0], [1]])

    def test_256_calls_with_the_longest_lists(self):
        names = ("is_valid", "sold_seats")
        calls = [(name, [LARGEST_IN_LISTS] * 40) for name in names for _ in range(16)]
        calls += [("create",)]
        while len(calls) < 256:
            name = ("join", "meet")[len(calls) % 2]
            calls.append((name, [LARGEST_IN_LISTS] * 40, [0] * 40))
        self.assertEqual(len(flatten(calls)), 32 * 42 + 1 + 223 * 83)
        self.assertEqual(ask(*calls), [[-11]] * 32 + [[0]] + [[-22]] * 223)


class IsValid(unittest.TestCase):
    def check(self, seats, assignments, pairs, valid):
        """The allocations that are valid, of all that there are."""
        everything = every_allocation(len(seats))
        given = ask_behind(build(seats, assignments, pairs), [("is_valid", uses) for uses in everything])
        self.assertEqual(given, [[int(uses in valid)] for uses in everything])

    def test_no_blocks(self):
        self.check([], None, [], [[]])

    def test_each_assignment(self):
        self.check([5], [0], [], [[0], [1], [2]])
        self.check([5], [1], [], [[1]])
        self.check([5], [2], [], [[2]])
        self.check([5], [3], [], [[0]])

    def test_without_seats(self):
        self.check([0], [0], [], [[0], [1], [2]])
        self.check([0], [1], [], [[1]])
        self.check([0, 0], [0, 1], [(0, 1)], [[0, 1], [1, 1]])

    def test_separated(self):
        everything = every_allocation(2)
        apart = [uses for uses in everything if uses not in ([1, 2], [2, 1])]
        self.check([5, 6], None, [], everything)
        self.check([5, 6], None, [(0, 1)], apart)
        self.check([5, 6], None, [(1, 0)], apart)

    def test_assigned_and_separated(self):
        self.check([5, 6, 7], [1, 0, 2], PATH, [[1, 0, 2]])
        self.check([5, 6, 7], [1, 0, 2], [(0, 1)], [[1, 0, 2], [1, 1, 2]])
        self.check([5, 6, 7], [1, 3, 0], PATH, [[1, 0, 0], [1, 0, 1], [1, 0, 2]])
        self.check([5, 6, 7], [0, 2, 3], PATH, [[0, 2, 0], [2, 2, 0]])

    def test_none(self):
        self.check([5, 6], [1, 2], [(0, 1)], [])
        self.check([0, 0, 0], [2, 0, 1], [(2, 0)], [])

    def test_every_pair_of_six_blocks_counts(self):
        for i, j in itertools.combinations(range(6), 2):
            uses = [0] * 6
            uses[i], uses[j] = 1, 2
            calls = build([1] * 6, None, [pair for pair in itertools.combinations(range(6), 2) if pair != (i, j)])
            swapped = [{1: 2, 2: 1}.get(use, use) for use in uses]
            given = ask(*calls, ("is_valid", uses), ("is_valid", swapped), ("connect", i, j),
                        ("is_valid", uses), ("is_valid", swapped))
            self.assertEqual(given[len(calls):], [[1], [1], [15], [0], [0]])

    def test_the_best_allocation_is_valid(self):
        calls = build([5, 6, 7, 8], [1, 0, 0, 2], [(0, 1), (1, 2), (2, 3)])
        best = ask_last(*calls, ("best_allocation",))[1:]
        self.assertEqual(ask_last(*calls, ("is_valid", best)), [1])


class SoldSeats(unittest.TestCase):
    def check(self, calls, allocation, due):
        self.assertEqual(ask_last(*calls, ("sold_seats", allocation)), due)

    def test_no_blocks(self):
        self.check(build([]), [], [0, 0, 0])

    def test_seats_of_each_use(self):
        calls = build([1, 10, 40])
        self.check(calls, [0, 0, 0], [0, 0, 0])
        self.check(calls, [1, 1, 1], [51, 51, 0])
        self.check(calls, [2, 2, 2], [51, 0, 51])
        self.check(calls, [0, 1, 2], [50, 10, 40])
        self.check(calls, [2, 0, 1], [41, 40, 1])
        self.check(calls, [1, 2, 0], [11, 1, 10])
        self.check(calls, [2, 1, 2], [51, 10, 41])

    def test_every_allocation(self):
        seats = [1, 4, 16, 64]
        everything = every_allocation(4)
        due = []
        for uses in everything:
            home = sum(number for number, use in zip(seats, uses) if use == 1)
            away = sum(number for number, use in zip(seats, uses) if use == 2)
            due.append([home + away, home, away])
        self.assertEqual(ask_behind(build(seats), [("sold_seats", uses) for uses in everything]), due)

    def test_the_allocation_need_not_be_valid(self):
        self.check(build([4, 5], None, [(0, 1)]), [1, 2], [9, 4, 5])
        self.check(build([4, 5], [2, 3]), [1, 2], [9, 4, 5])
        self.check(build([4, 5], [1, 2], [(0, 1)]), [2, 0], [4, 0, 4])
        self.check(build([4, 5], [3, 1], [(0, 1)]), [1, 2], [9, 4, 5])

    def test_blocks_without_seats(self):
        self.check(build([0, 0, 7]), [1, 2, 0], [0, 0, 0])
        self.check(build([0, 0, 7]), [1, 2, 2], [7, 0, 7])

    def test_the_most_seats_there_can_be(self):
        self.check(build([99] * 6), [1] * 6, [594, 594, 0])
        self.check(build([99] * 6), [2] * 6, [594, 0, 594])
        self.check(build([99] * 6), [1, 2] * 3, [594, 297, 297])


# The join and the meet of each two uses, from the words of the document.
JOINS = {(0, 0): 0, (0, 1): 1, (0, 2): 0, (1, 0): 1, (1, 1): 1, (1, 2): 1, (2, 0): 0, (2, 1): 1, (2, 2): 2}
MEETS = {(0, 0): 0, (0, 1): 0, (0, 2): 2, (1, 0): 0, (1, 1): 1, (1, 2): 2, (2, 0): 2, (2, 1): 2, (2, 2): 2}


class JoinAndMeet(unittest.TestCase):
    def test_no_blocks(self):
        self.assertEqual(ask(("create",), ("join", [], []), ("meet", [], []))[1:], [[0], [0]])

    def test_each_two_uses(self):
        for (first, second), due in JOINS.items():
            self.assertEqual(ask_last(*build([5]), ("join", [first], [second])), [1, due], (first, second))
        for (first, second), due in MEETS.items():
            self.assertEqual(ask_last(*build([5]), ("meet", [first], [second])), [1, due], (first, second))

    def test_block_by_block(self):
        first, second = [0, 0, 0, 1, 1, 1], [0, 1, 2, 0, 1, 2]
        given = ask(*build([1] * 6), ("join", first, second), ("meet", first, second))
        self.assertEqual(given[-2:], [[6, 0, 1, 0, 1, 1, 1], [6, 0, 0, 2, 0, 1, 2]])
        given = ask(*build([1] * 4), ("join", [2, 2, 2, 0], [0, 1, 2, 2]), ("meet", [2, 2, 2, 0], [0, 1, 2, 2]))
        self.assertEqual(given[-2:], [[4, 0, 1, 2, 0], [4, 2, 2, 2, 2]])

    def test_all_of_three_blocks(self):
        calls = build([1, 2, 3], [1, 2, 3], PATH)
        both = list(itertools.product(every_allocation(3), repeat=2))
        for name, table in (("join", JOINS), ("meet", MEETS)):
            given = ask_behind(calls, [(name, first, second) for first, second in both])
            due = [[3] + [table[uses] for uses in zip(first, second)] for first, second in both]
            self.assertEqual(given, due, name)

    def test_the_allocations_need_not_be_valid(self):
        for calls in (build([4, 5], None, [(0, 1)]), build([4, 5], [2, 3]), build([4, 5], [1, 2], [(0, 1)])):
            given = ask(*calls, ("join", [1, 2], [0, 2]), ("meet", [1, 2], [2, 1]), ("join", [1, 2], [2, 1]))
            self.assertEqual(given[-3:], [[2, 1, 2], [2, 2, 2], [2, 1, 1]])

    def test_an_allocation_with_itself(self):
        for uses in every_allocation(3):
            given = ask(*build([1] * 3), ("join", uses, uses), ("meet", uses, uses))
            self.assertEqual(given[-2:], [[3, *uses], [3, *uses]])


if __name__ == "__main__":
    unittest.main()

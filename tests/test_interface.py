"""How calls are handed in and answers given back, and the planner that create makes."""

import unittest

from sessions import LARGEST, LARGEST_IN_LISTS, NUMBERS, ask, ask_last, build, flatten, view
from standblocks.planner import answers

ONE_OF_EACH_BUT_CREATE = [
    ("add_block", 5),
    ("remove_last_block",),
    ("set_seats", 0, 5),
    ("assign", 0, 1),
    ("connect", 0, 1),
    ("disconnect", 0, 1),
    ("swap_teams",),
    ("list_blocks",),
    ("neighbors", 0),
    ("best_allocation",),
    ("empty_seats",),
    ("best_with_away", 1),
    ("max_away",),
    ("is_valid", [1]),
    ("sold_seats", [1]),
    ("join", [1], [2]),
    ("meet", [1], [2]),
    ("sold_if_assigned", 0, 2),
    ("sold_if_closed", 0),
    ("count_valid",),
    ("fix_best",),
    ("get_state",),
]

OUT_OF_RANGE_CALLS = [
    ("add_block", LARGEST),
    ("set_seats", LARGEST, LARGEST),
    ("assign", LARGEST, LARGEST),
    ("connect", LARGEST, LARGEST),
    ("disconnect", LARGEST, LARGEST),
    ("neighbors", LARGEST),
    ("best_with_away", LARGEST),
    ("is_valid", [LARGEST_IN_LISTS] * 40),
    ("sold_seats", [LARGEST_IN_LISTS] * 40),
    ("join", [LARGEST_IN_LISTS] * 40, [LARGEST_IN_LISTS] * 40),
    ("meet", [LARGEST_IN_LISTS] * 40, [LARGEST_IN_LISTS] * 40),
    ("sold_if_assigned", LARGEST, LARGEST),
    ("sold_if_closed", LARGEST),
]

SHORTEST_AND_LONGEST_LISTS = [[], [0] * 40, [2] * 40, [LARGEST_IN_LISTS] * 40]


class TheLists(unittest.TestCase):
    def test_calls_and_answers_as_plain_numbers(self):
        calls = [0, 1, 10, 1, 5, 5, 0, 1, 9, 0, 4, 0, 2, 8, 10, 11, 2, 3, 7, 1, 7, 6, 0, 1]
        due = [
            1, 0,
            1, 0,
            1, 1,
            1, 1,
            2, 1, 1,
            1, 0,
            5, 2, 10, 2, 5, 0,
            3, 15, 2, 2,
            1, 0,
            1, 1,
            1, -2,
            1, 1,
            1, -2,
        ]
        self.assertEqual(answers(calls), due)

    def test_answers_are_a_list_of_plain_ints(self):
        given = answers(flatten([*build([3, 4], [0, 1], [(0, 1)]), *view(2), ("best_allocation",), ("empty_seats",)]))
        self.assertIs(type(given), list)
        self.assertEqual({type(number) for number in given}, {int})

    def test_a_refusal_is_its_code_alone(self):
        self.assertEqual(answers([8]), [1, -11])
        self.assertEqual(answers([0, 2, 9, 7]), [1, 0, 1, -6, 1, -2])
        self.assertEqual(answers([0, 12, 1, 14, 1, 0, 16, 0, 1, 0, 18, 0, 9]), [1, 0, 1, -33, 1, -22, 1, -22, 1, -2])

    def test_each_kind_of_call_as_plain_numbers(self):
        calls = [
            0, 1, 7, 1, 8, 5, 0, 1, 3, 1, 9, 4, 0, 2, 12, 1, 13, 14, 2, 2, 0, 15, 2, 2, 1, 16, 2, 1, 0, 2, 2, 2,
            17, 2, 1, 0, 2, 2, 2, 18, 1, 3, 19, 0, 20, 10, 11, 21, 8, 9, 1, 6, 1, 0, 7, 22, 2,
        ]
        due = [
            1, 0, 1, 0, 1, 1, 1, 1, 1, 8, 1, 0,
            3, 16, 2, 2,
            1, 16,
            1, 1,
            3, 16, 9, 7,
            3, 2, 1, 0,
            3, 2, 2, 2,
            1, 7,
            1, 9,
            1, 2,
            3, 16, 2, 2,
            1, 0,
            1, 16,
            5, 2, 7, 2, 9, 2,
            2, 1, 0,
            1, 0,
            1, 2,
            3, 2, 0, 16,
            1, 1,
        ]
        self.assertEqual(answers(calls), due)

    def test_what_is_handed_in_is_unchanged(self):
        calls = flatten([*build([3, 4, 5], [0, 1, 2], [(0, 1), (1, 2)]), *OUT_OF_RANGE_CALLS, *ONE_OF_EACH_BUT_CREATE])
        kept = list(calls)
        answers(calls)
        self.assertEqual(calls, kept)

    def test_what_is_handed_in_is_read_alone(self):
        class ReadOnly(list):
            def refuse(self, *_):
                raise AssertionError("the list handed in was changed")

            append = extend = insert = pop = remove = clear = sort = reverse = refuse
            __setitem__ = __delitem__ = __iadd__ = __imul__ = refuse

        calls = flatten([*build([3, 4], [0, 1], [(0, 1)]), *ONE_OF_EACH_BUT_CREATE])
        self.assertEqual(answers(ReadOnly(calls)), answers(calls))

    def test_a_second_time_gives_the_same_answers(self):
        calls = flatten([*build([3, 4, 5], [0, 1, 2], [(0, 1)]), *ONE_OF_EACH_BUT_CREATE, *view(3)])
        first = answers(calls)
        self.assertEqual(answers(calls), first)
        first.clear()
        self.assertNotEqual(answers(calls), first)

    def test_each_time_begins_without_a_planner(self):
        ask(*build([3, 4]))
        self.assertEqual(ask(("list_blocks",)), [[-11]])

    def test_256_calls(self):
        calls = build([9] * 6, [0, 1, 0, 2, 0, 0], [(0, 1), (2, 3)])
        due = ask(*calls)
        while len(calls) < 256:
            calls.append(("best_allocation",))
            due.append([54, 1, 1, 2, 2, 1, 1])
        self.assertEqual(ask(*calls), due)

    def test_256_calls_that_change(self):
        calls = [("create",)]
        due = [[0]]
        for turn in range(85):
            calls += [("add_block", turn), ("list_blocks",), ("remove_last_block",)]
            due += [[0], [1, turn, 0], [0]]
        self.assertEqual(len(calls), 256)
        self.assertEqual(ask(*calls), due)


class ThePlanner(unittest.TestCase):
    def test_each_call_but_create_asks_for_a_planner_first(self):
        for call in ONE_OF_EACH_BUT_CREATE + OUT_OF_RANGE_CALLS:
            with self.subTest(call=call):
                self.assertEqual(ask(call), [[-11]])

    def test_each_kind_of_call_is_among_them(self):
        names = {call[0] for call in ONE_OF_EACH_BUT_CREATE}
        self.assertEqual(names, set(NUMBERS) - {"create"})
        self.assertEqual(sorted(NUMBERS.values()), list(range(23)))

    def test_without_a_planner_the_call_behind_a_list_is_read_at_its_place(self):
        behind = [("get_state",), ("create",), ("get_state",), ("add_block", 5)]
        due = [[-11], [-11], [0], [0, 0, 0], [0]]
        for first in SHORTEST_AND_LONGEST_LISTS:
            for name in ("is_valid", "sold_seats"):
                self.assertEqual(ask((name, first), *behind), due, (name, first))
            for second in SHORTEST_AND_LONGEST_LISTS:
                for name in ("join", "meet"):
                    self.assertEqual(ask((name, first, second), *behind), due, (name, first, second))

    def test_without_a_planner_as_plain_numbers(self):
        forty = [40] + [0] * 40
        for number in (14, 15):
            self.assertEqual(answers([number, 0, 0, 22]), [1, -11, 1, 0, 3, 0, 0, 0])
            self.assertEqual(answers([number, *forty, 0, 22]), [1, -11, 1, 0, 3, 0, 0, 0])
        for number in (16, 17):
            for first in ([0], forty):
                for second in ([0], forty):
                    self.assertEqual(answers([number, *first, *second, 0, 22]), [1, -11, 1, 0, 3, 0, 0, 0])

    def test_calls_before_create_leave_nothing_behind(self):
        refused = ONE_OF_EACH_BUT_CREATE + OUT_OF_RANGE_CALLS
        self.assertEqual(ask(*refused, ("create",), ("list_blocks",)), [[-11]] * len(refused) + [[0], [0]])

    def test_create_makes_a_planner_without_blocks(self):
        self.assertEqual(ask(("create",), ("list_blocks",), ("swap_teams",)), [[0], [0], [0]])

    def test_a_second_create_replaces_the_planner(self):
        calls = build([1, 2], [1, 2], [(0, 1)])
        self.assertEqual(ask_last(*calls, ("create",)), [0])
        self.assertEqual(ask_last(*calls, ("create",), ("list_blocks",)), [0])
        again = ask(*calls, ("create",), ("add_block", 7), ("add_block", 8), *view(2))
        self.assertEqual(again[-5:], [[0], [1], [2, 7, 0, 8, 0], [0], [0]])

    def test_a_create_behind_another(self):
        self.assertEqual(ask(("create",), ("create",), ("list_blocks",)), [[0], [0], [0]])


if __name__ == "__main__":
    unittest.main()

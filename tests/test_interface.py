"""How calls are handed in and answers given back, and the planner that create makes."""

import unittest

from sessions import LARGEST, ask, ask_last, build, flatten, view
from standblocks.planner import answers

ONE_OF_EACH_BUT_CREATE = [
    ("add_block", 5),
    ("remove_last_block",),
    ("set_seats", 0, 5),
    ("assign", 0, 1),
    ("connect", 0, 1),
    ("disconnect", 0, 1),
    ("swap_teams",),
    ("list_blocks",),
    ("neighbors", 0),
    ("best_allocation",),
    ("empty_seats",),
]

OUT_OF_RANGE_CALLS = [
    ("add_block", LARGEST),
    ("set_seats", LARGEST, LARGEST),
    ("assign", LARGEST, LARGEST),
    ("connect", LARGEST, LARGEST),
    ("disconnect", LARGEST, LARGEST),
    ("neighbors", LARGEST),
]


class TheLists(unittest.TestCase):
    def test_calls_and_answers_as_plain_numbers(self):
        calls = [0, 1, 10, 1, 5, 5, 0, 1, 9, 0, 4, 0, 2, 8, 10, 11, 2, 3, 7, 1, 7, 6, 0, 1]
        due = [
            1, 0,
            1, 0,
            1, 1,
            1, 1,
            2, 1, 1,
            1, 0,
            5, 2, 10, 2, 5, 0,
            3, 15, 2, 2,
            1, 0,
            1, 1,
            1, -2,
            1, 1,
            1, -2,
        ]
        self.assertEqual(answers(calls), due)

    def test_answers_are_a_list_of_plain_ints(self):
        given = answers(flatten([*build([3, 4], [0, 1], [(0, 1)]), *view(2), ("best_allocation",), ("empty_seats",)]))
        self.assertIs(type(given), list)
        self.assertEqual({type(number) for number in given}, {int})

    def test_a_refusal_is_its_code_alone(self):
        self.assertEqual(answers([8]), [1, -11])
        self.assertEqual(answers([0, 2, 9, 7]), [1, 0, 1, -6, 1, -2])

    def test_what_is_handed_in_is_unchanged(self):
        calls = flatten([*build([3, 4, 5], [0, 1, 2], [(0, 1), (1, 2)]), *OUT_OF_RANGE_CALLS, *ONE_OF_EACH_BUT_CREATE])
        kept = list(calls)
        answers(calls)
        self.assertEqual(calls, kept)

    def test_what_is_handed_in_is_read_alone(self):
        class ReadOnly(list):
            def refuse(self, *_):
                raise AssertionError("the list handed in was changed")

            append = extend = insert = pop = remove = clear = sort = reverse = refuse
            __setitem__ = __delitem__ = __iadd__ = __imul__ = refuse

        calls = flatten([*build([3, 4], [0, 1], [(0, 1)]), *ONE_OF_EACH_BUT_CREATE])
        self.assertEqual(answers(ReadOnly(calls)), answers(calls))

    def test_a_second_time_gives_the_same_answers(self):
        calls = flatten([*build([3, 4, 5], [0, 1, 2], [(0, 1)]), *ONE_OF_EACH_BUT_CREATE, *view(3)])
        first = answers(calls)
        self.assertEqual(answers(calls), first)
        first.clear()
        self.assertNotEqual(answers(calls), first)

    def test_each_time_begins_without_a_planner(self):
        ask(*build([3, 4]))
        self.assertEqual(ask(("list_blocks",)), [[-11]])

    def test_256_calls(self):
        calls = build([9] * 6, [0, 1, 0, 2, 0, 0], [(0, 1), (2, 3)])
        due = ask(*calls)
        while len(calls) < 256:
            calls.append(("best_allocation",))
            due.append([54, 1, 1, 2, 2, 1, 1])
        self.assertEqual(ask(*calls), due)

    def test_256_calls_that_change(self):
        calls = [("create",)]
        due = [[0]]
        for turn in range(85):
            calls += [("add_block", turn), ("list_blocks",), ("remove_last_block",)]
            due += [[0], [1, turn, 0], [0]]
        self.assertEqual(len(calls), 256)
        self.assertEqual(ask(*calls), due)


class ThePlanner(unittest.TestCase):
    def test_each_call_but_create_asks_for_a_planner_first(self):
        for call in ONE_OF_EACH_BUT_CREATE + OUT_OF_RANGE_CALLS:
            with self.subTest(call=call):
                self.assertEqual(ask(call), [[-11]])

    def test_calls_before_create_leave_nothing_behind(self):
        refused = ONE_OF_EACH_BUT_CREATE + OUT_OF_RANGE_CALLS
        self.assertEqual(ask(*refused, ("create",), ("list_blocks",)), [[-11]] * len(refused) + [[0], [0]])

    def test_create_makes_a_planner_without_blocks(self):
        self.assertEqual(ask(("create",), ("list_blocks",), ("swap_teams",)), [[0], [0], [0]])

    def test_a_second_create_replaces_the_planner(self):
        calls = build([1, 2], [1, 2], [(0, 1)])
        self.assertEqual(ask_last(*calls, ("create",)), [0])
        self.assertEqual(ask_last(*calls, ("create",), ("list_blocks",)), [0])
        again = ask(*calls, ("create",), ("add_block", 7), ("add_block", 8), *view(2))
        self.assertEqual(again[-5:], [[0], [1], [2, 7, 0, 8, 0], [0], [0]])

    def test_a_create_behind_another(self):
        self.assertEqual(ask(("create",), ("create",), ("list_blocks",)), [[0], [0], [0]])


if __name__ == "__main__":
    unittest.main()

"""Long sessions of drawn calls against a plain model that the tests keep themselves."""

import random
import unittest

from drawing import draw_call
from model import Model
from sessions import MOST_CALLS, NUMBERS, ask, flatten
from standblocks.planner import answers


def draw_session(draw, before_create, between, behind):
    """Drawn calls with a create among them and perhaps a second one; and what is due for them."""
    model = Model()
    calls = []
    due = []

    def do(call):
        calls.append(call)
        due.append(model.answer(*call))

    for _ in range(before_create):
        do(draw_call(draw, draw.randint(0, 3)))
    do(("create",))
    for _ in range(between):
        do(draw_call(draw, model.block_count()))
    if draw.random() < 0.5:
        do(("create",))
    for _ in range(behind):
        do(draw_call(draw, model.block_count()))
    return calls, due


class Sessions(unittest.TestCase):
    def test_drawn_sessions(self):
        draw = random.Random(22)
        for turn in range(120):
            calls, due = draw_session(draw, draw.randint(0, 3), draw.randint(1, 120), draw.randint(1, 120))
            self.assertEqual(ask(*calls), due, calls)

    def test_256_calls_of_all_kinds(self):
        draw = random.Random(23)
        for turn in range(20):
            model = Model()
            # The blocks come and go slowly enough that most calls find some.
            calls = [("create",)] + [("add_block", draw.randint(0, 99)) for _ in range(5)]
            due = [model.answer(*call) for call in calls]
            kinds = [name for name in NUMBERS if name != "create"] * 11
            draw.shuffle(kinds)
            for name in kinds:
                calls.append(draw_call(draw, model.block_count(), (name,)))
                due.append(model.answer(*calls[-1]))
            while len(calls) < MOST_CALLS:
                calls.append(draw_call(draw, model.block_count()))
                due.append(model.answer(*calls[-1]))
            self.assertEqual((len(calls), len({call[0] for call in calls})), (256, 23))
            self.assertEqual(ask(*calls), due, calls)

    def test_what_is_handed_in_is_unchanged_and_answered_the_same_again(self):
        draw = random.Random(24)
        for turn in range(20):
            flat = flatten(draw_session(draw, 2, 100, 100)[0])
            kept = list(flat)
            first = answers(flat)
            self.assertEqual(flat, kept)
            self.assertEqual(answers(flat), first)
            self.assertEqual(flat, kept)


if __name__ == "__main__":
    unittest.main()

"""Long sessions of drawn calls against a plain model that the test keeps itself."""

import random
import unittest

from sessions import LARGEST, ask, search_best, search_empty


class Model:
    """What the document says of each call, with adjacency as a set of sets."""

    def __init__(self):
        self.blocks = None
        self.pairs = set()

    def answer(self, name, *arguments):
        if name == "create":
            self.blocks = []
            self.pairs = set()
            return [0]
        if self.blocks is None:
            return [-11]
        return getattr(self, name)(*arguments)

    def lacks(self, *blocks):
        return any(block >= len(self.blocks) for block in blocks)

    def add_block(self, seats):
        if seats > 99:
            return [-22]
        if len(self.blocks) == 6:
            return [-28]
        self.blocks.append([seats, 0])
        return [len(self.blocks) - 1]

    def remove_last_block(self):
        if not self.blocks:
            return [-6]
        self.blocks.pop()
        self.pairs = {pair for pair in self.pairs if len(self.blocks) not in pair}
        return [len(self.blocks)]

    def set_value(self, block, place, value, most):
        if self.lacks(block):
            return [-2]
        if value > most:
            return [-22]
        previous = self.blocks[block][place]
        self.blocks[block][place] = value
        return [previous]

    def set_seats(self, block, seats):
        return self.set_value(block, 0, seats, 99)

    def assign(self, block, assignment):
        return self.set_value(block, 1, assignment, 3)

    def connect(self, i, j):
        if self.lacks(i, j):
            return [-2]
        if i == j:
            return [-22]
        if frozenset((i, j)) in self.pairs:
            return [-17]
        self.pairs.add(frozenset((i, j)))
        return [len(self.pairs)]

    def disconnect(self, i, j):
        if self.lacks(i, j):
            return [-2]
        if frozenset((i, j)) not in self.pairs:
            return [-6]
        self.pairs.discard(frozenset((i, j)))
        return [len(self.pairs)]

    def swap_teams(self):
        for block in self.blocks:
            block[1] = {1: 2, 2: 1}.get(block[1], block[1])
        return [len(self.blocks)]

    def list_blocks(self):
        return [len(self.blocks)] + [number for block in self.blocks for number in block]

    def neighbors(self, block):
        if self.lacks(block):
            return [-2]
        others = sorted(other for pair in self.pairs if block in pair for other in pair if other != block)
        return [len(others), *others]

    def best_allocation(self):
        return search_best(*self.terms())

    def empty_seats(self):
        return search_empty(*self.terms())

    def terms(self):
        pairs = [tuple(sorted(pair)) for pair in self.pairs]
        return [block[0] for block in self.blocks], [block[1] for block in self.blocks], pairs


def draw_call(draw):
    """A call whose numbers are mostly near the edges of their ranges."""
    def block():
        return draw.choice((0, 0, 1, 1, 2, 2, 3, 4, 5, 6, LARGEST))

    def seats():
        return draw.choice((0, 1, 2, 3, draw.randint(0, 99), 99, 100, LARGEST))

    name = draw.choice(
        ["add_block"] * 6 + ["remove_last_block"] * 2 + ["set_seats"] * 3 + ["assign"] * 4 + ["connect"] * 8
        + ["disconnect"] * 3 + ["swap_teams", "best_allocation", "empty_seats"] + ["list_blocks"] * 3
        + ["neighbors"] * 3
    )
    if name == "add_block":
        return (name, seats())
    if name == "set_seats":
        return (name, block(), seats())
    if name == "assign":
        return (name, block(), draw.choice((0, 0, 1, 2, 3, 4, LARGEST)))
    if name in ("connect", "disconnect"):
        return (name, block(), block())
    if name == "neighbors":
        return (name, block())
    return (name,)


class Sessions(unittest.TestCase):
    def test_drawn_sessions(self):
        draw = random.Random(22)
        for turn in range(80):
            calls = [draw_call(draw) for _ in range(draw.randint(0, 2))]
            calls += [("create",)]
            calls += [draw_call(draw) for _ in range(draw.randint(1, 120))]
            if draw.random() < 0.5:
                calls += [("create",)]
            calls += [draw_call(draw) for _ in range(draw.randint(1, 120))]
            model = Model()
            due = [model.answer(*call) for call in calls]
            self.assertEqual(ask(*calls), due, calls)


if __name__ == "__main__":
    unittest.main()

"""A plain model of a planner: what the document says of each call, with adjacency as a set of sets."""

from sessions import (
    is_valid, join_of, meet_of, search_best, search_empty, search_max_away, search_sold_if, search_valid, seats_of,
)


class Model:
    def __init__(self):
        self.blocks = None
        self.pairs = set()

    def answer(self, name, *arguments):
        if name == "create":
            self.blocks = []
            self.pairs = set()
            return [0]
        if self.blocks is None:
            return [-11]
        return getattr(self, name)(*arguments)

    def block_count(self):
        return len(self.blocks or [])

    def lacks(self, *blocks):
        return any(block >= len(self.blocks) for block in blocks)

    def terms(self):
        pairs = [tuple(sorted(pair)) for pair in self.pairs]
        return [block[0] for block in self.blocks], [block[1] for block in self.blocks], pairs

    def add_block(self, seats):
        if seats > 99:
            return [-22]
        if len(self.blocks) == 6:
            return [-28]
        self.blocks.append([seats, 0])
        return [len(self.blocks) - 1]

    def remove_last_block(self):
        if not self.blocks:
            return [-6]
        self.blocks.pop()
        self.pairs = {pair for pair in self.pairs if len(self.blocks) not in pair}
        return [len(self.blocks)]

    def set_value(self, block, place, value, most):
        if self.lacks(block):
            return [-2]
        if value > most:
            return [-22]
        previous = self.blocks[block][place]
        self.blocks[block][place] = value
        return [previous]

    def set_seats(self, block, seats):
        return self.set_value(block, 0, seats, 99)

    def assign(self, block, assignment):
        return self.set_value(block, 1, assignment, 3)

    def connect(self, i, j):
        if self.lacks(i, j):
            return [-2]
        if i == j:
            return [-22]
        if frozenset((i, j)) in self.pairs:
            return [-17]
        self.pairs.add(frozenset((i, j)))
        return [len(self.pairs)]

    def disconnect(self, i, j):
        if self.lacks(i, j):
            return [-2]
        if frozenset((i, j)) not in self.pairs:
            return [-6]
        self.pairs.discard(frozenset((i, j)))
        return [len(self.pairs)]

    def swap_teams(self):
        for block in self.blocks:
            block[1] = {1: 2, 2: 1}.get(block[1], block[1])
        return [len(self.blocks)]

    def list_blocks(self):
        return [len(self.blocks)] + [number for block in self.blocks for number in block]

    def neighbors(self, block):
        if self.lacks(block):
            return [-2]
        others = sorted(other for pair in self.pairs if block in pair for other in pair if other != block)
        return [len(others), *others]

    def best_allocation(self):
        return search_best(*self.terms())

    def empty_seats(self):
        return search_empty(*self.terms())

    def best_with_away(self, min_away):
        return search_best(*self.terms(), min_away)

    def max_away(self):
        return search_max_away(*self.terms())

    def are_allocations(self, *given):
        return all(len(uses) == len(self.blocks) and max(uses, default=0) <= 2 for uses in given)

    def is_valid(self, allocation):
        if not self.are_allocations(allocation):
            return [-22]
        return [int(is_valid(allocation, *self.terms()[1:]))]

    def sold_seats(self, allocation):
        if not self.are_allocations(allocation):
            return [-22]
        return [seats_of(self.terms()[0], allocation, *counted) for counted in ((1, 2), (1,), (2,))]

    def join(self, first, second):
        if not self.are_allocations(first, second):
            return [-22]
        return [len(self.blocks), *join_of(first, second)]

    def meet(self, first, second):
        if not self.are_allocations(first, second):
            return [-22]
        return [len(self.blocks), *meet_of(first, second)]

    def sold_if_assigned(self, block, assignment):
        if self.lacks(block):
            return [-2]
        if assignment > 3:
            return [-22]
        return search_sold_if(*self.terms(), block, assignment)

    def sold_if_closed(self, block):
        return self.sold_if_assigned(block, 3)

    def count_valid(self):
        return [len(search_valid(*self.terms()))]

    def fix_best(self):
        due = self.best_allocation()
        for block, use in zip(self.blocks, due[1:]):
            block[1] = use or 3
        return due[:1]

    def get_state(self):
        return [len(self.blocks), len(self.pairs), sum(seats for seats, _ in self.blocks)]

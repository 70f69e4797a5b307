"""The state of a planner: the blocks and which of them are adjacent."""


class Stadium:
    """Blocks, numbered from 0, with their seats, assignments and adjacent pairs."""

    def __init__(self):
        self.seats = []
        self.assignments = []
        # Each adjacency stands here once, as a tuple with the smaller block first.
        self.pairs = []

    def block_count(self):
        """How many blocks there are."""
        return len(self.seats)

    def has_block(self, block):
        """Whether there is a block of this number."""
        return block < len(self.seats)

    def are_adjacent(self, i, j):
        """Whether the two blocks are adjacent."""
        return (min(i, j), max(i, j)) in self.pairs

    def adjacent_blocks(self, block):
        """The blocks adjacent to this one, in increasing order."""
        return [other for other in range(len(self.seats)) if self.are_adjacent(block, other)]

    def reassigned(self, block, assignment):
        """Another stadium, like this one but for the assignment of the block."""
        other = Stadium()
        other.seats = list(self.seats)
        other.assignments = list(self.assignments)
        other.assignments[block] = assignment
        other.pairs = list(self.pairs)
        return other

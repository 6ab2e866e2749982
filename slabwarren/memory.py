"""Shared memory: cells with names, and a count of the accesses."""


class Memory:
    """Cells whose names are tuples; each is 0 before its first change."""

    def __init__(self):
        self.accesses = 0
        self.cells = {}

    def read(self, cell):
        """Return the value of a cell, as one access."""
        self.accesses += 1
        return self.peek(cell)

    def write(self, cell, value):
        """Change the value of a cell, as one access."""
        self.accesses += 1
        self.set_up(cell, value)

    def swap(self, cell, old, new):
        """Change old to new if the cell has old, as one access; tell whether it did."""
        # A swap that fails has looked at the cell, so it counts as well.
        self.accesses += 1
        if self.peek(cell) != old:
            return False
        self.set_up(cell, new)
        return True

    def peek(self, cell):
        """Return the value of a cell without an access."""
        return self.cells.get(cell, 0)

    def set_up(self, cell, value):
        """Change the value of a cell without an access."""
        self.cells[cell] = value

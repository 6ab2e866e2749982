"""Stacks in shared memory, and the machines that change them one access at a time."""

PAGES = ("pages",)

# What a machine does with its next step.
READ_HEAD = "read the head"
READ_CELL = "read the cell of an item"
WRITE_CELL = "write the cell of the item"
SWAP_HEAD = "swap the head"


def free_cell(size):
    """Return the head of the stack of the free objects of a size."""
    return ("free", size)


def next_cell(head, item):
    """Return the cell of an item: it has the item below it plus 1, or 0."""
    # A page and an object may have the same number, so their cells have different names.
    if head == PAGES:
        return ("page below", item)
    return ("object below", item)


def head_value(value):
    """Return the pair (top, tag) for a value of a head."""
    if value == 0:
        return (0, 0)
    return value


def change_head(memory, head, raw, top):
    """Swap a head from the value that was read to a new top, as one access; tell whether it did."""
    _, tag = head_value(raw)
    return memory.swap(head, raw, (top, tag + 1))


def items_from(memory, head, top):
    """Return the items from a top (an item plus 1, or 0) on downwards, without an access."""
    found = []
    known = set()
    while top > 0 and top not in known:
        known.add(top)
        found.append(top - 1)
        top = memory.peek(next_cell(head, top - 1))
    if top > 0:
        # Only a stack that was changed by hand leads back to an item: it is told twice, and not without end.
        found.append(top - 1)
    return found


def items_of(memory, head):
    """Return the items of a stack from the topmost one on, without an access."""
    top, _ = head_value(memory.peek(head))
    return items_from(memory, head, top)


class Pop:
    """Takes the topmost item of a stack, if there is one."""

    def __init__(self, head):
        self.head = head
        self.done = False
        self.result = None
        self.raw = None
        self.below = 0
        self.stage = READ_HEAD

    def step(self, memory):
        """Do the next access."""
        if self.stage == READ_HEAD:
            self.read_head(memory)
        elif self.stage == READ_CELL:
            self.below = memory.read(next_cell(self.head, self.topmost()))
            self.stage = SWAP_HEAD
        else:
            self.swap_head(memory)

    def topmost(self):
        """Return the item that was on top when the head was read last."""
        top, _ = head_value(self.raw)
        return top - 1

    def read_head(self, memory):
        """Read the head; at an empty stack there is nothing more to do."""
        self.raw = memory.read(self.head)
        top, _ = head_value(self.raw)
        self.done = top == 0
        self.stage = READ_CELL

    def swap_head(self, memory):
        """Take the item, or begin anew if the head was changed meanwhile."""
        if change_head(memory, self.head, self.raw, self.below):
            self.result = self.topmost()
            self.done = True
        else:
            self.stage = READ_HEAD


class Push:
    """Lays an item on top of a stack."""

    def __init__(self, head, item):
        self.head = head
        self.item = item
        self.done = False
        self.raw = None
        self.stage = READ_HEAD

    def step(self, memory):
        """Do the next access."""
        if self.stage == READ_HEAD:
            self.raw = memory.read(self.head)
            self.stage = WRITE_CELL
        elif self.stage == WRITE_CELL:
            self.write_cell(memory)
        else:
            self.swap_head(memory)

    def write_cell(self, memory):
        """Write what was on top when the head was read as the item below."""
        top, _ = head_value(self.raw)
        memory.write(next_cell(self.head, self.item), top)
        self.stage = SWAP_HEAD

    def swap_head(self, memory):
        """Make the item the topmost one, or begin anew if the head was changed meanwhile."""
        self.done = change_head(memory, self.head, self.raw, self.item + 1)
        self.stage = READ_HEAD


class TakeAll:
    """Takes all items of a stack at once, and then reads which ones they are."""

    def __init__(self, head):
        self.head = head
        self.done = False
        self.taken = []
        self.raw = None
        # The topmost of the items that were taken and whose cells were not read, plus 1.
        self.rest = 0
        self.stage = READ_HEAD

    def step(self, memory):
        """Do the next access."""
        if self.stage == READ_HEAD:
            self.read_head(memory)
        elif self.stage == SWAP_HEAD:
            self.swap_head(memory)
        else:
            self.read_cell(memory)

    def holding(self, memory):
        """Return all items that were taken, topmost first, without an access."""
        return self.taken + items_from(memory, self.head, self.rest)

    def read_head(self, memory):
        """Read the head; at an empty stack there is nothing more to do."""
        self.raw = memory.read(self.head)
        top, _ = head_value(self.raw)
        self.done = top == 0
        self.stage = SWAP_HEAD

    def swap_head(self, memory):
        """Take all items, or begin anew if the head was changed meanwhile."""
        if change_head(memory, self.head, self.raw, 0):
            self.rest, _ = head_value(self.raw)
            self.stage = READ_CELL
        else:
            self.stage = READ_HEAD

    def read_cell(self, memory):
        """Read the cell of one item, which tells the next one."""
        item = self.rest - 1
        self.rest = memory.read(next_cell(self.head, item))
        self.taken.append(item)
        self.done = self.rest == 0


class PushAll:
    """Pushes items one after the other, the last one first; `left` has those not yet pushed."""

    def __init__(self, head, waiting):
        self.head = head
        self.left = list(waiting)
        self.done = False
        self.machine = None
        self.begin_next()

    def begin_next(self):
        """Begin to push the last item that is left; without one, all is done."""
        if self.left:
            self.machine = Push(self.head, self.left[-1])
        else:
            self.done = True

    def step(self, memory):
        """Do the next access."""
        self.machine.step(memory)
        # Until its swap succeeds, an item is not on the stack and stays among those that are left.
        if self.machine.done:
            self.left.pop()
            self.begin_next()

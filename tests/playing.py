"""What several tests need: a memory that tells its accesses, and ways to play machines and calls."""

from slabwarren.allocating import class_cell
from slabwarren.layout import Layout
from slabwarren.memory import Memory
from slabwarren.processor import Processor
from slabwarren.stacks import PAGES, free_cell, items_of, next_cell


class ToldMemory(Memory):
    """A memory that notes each access in the list `told`."""

    def __init__(self):
        super().__init__()
        self.told = []

    def read(self, cell):
        value = super().read(cell)
        self.told.append(("read", cell, value))
        return value

    def write(self, cell, value):
        self.told.append(("write", cell, value))
        return super().write(cell, value)

    def swap(self, cell, old, new):
        changed = super().swap(cell, old, new)
        self.told.append(("swap", cell, old, new, changed))
        return changed


def lay(memory, head, items, tag=0):
    """Make the stack of a head have these items, topmost first, without an access."""
    for item, below in zip(items, [*items[1:], -1]):
        memory.set_up(next_cell(head, item), below + 1)
    memory.set_up(head, (items[0] + 1 if items else 0, tag))


def step(machine, memory):
    """Do one step, which is one access and returns None."""
    before = memory.accesses
    told = machine.step(memory)
    if told is not None or memory.accesses != before + 1:
        raise AssertionError(f"a step returned {told!r} with {memory.accesses - before} accesses")


def play(machine, memory):
    """Do the steps of a machine that are left, and return how many there were."""
    many = 0
    while not machine.done:
        step(machine, memory)
        many += 1
    return many


class Story:
    """A memory with its free pages, some processors, and the calls that are under way."""

    def __init__(self, pages, sizes, processors=1):
        self.layout = Layout(pages, sizes)
        self.memory = ToldMemory()
        self.processors = [Processor(number, len(sizes)) for number in range(processors)]
        self.calls = []
        lay(self.memory, PAGES, list(range(pages)))

    def cut(self, page, size):
        """Make a page that is on no stack a page of a size, and return its objects."""
        self.memory.set_up(class_cell(page), size + 1)
        return self.layout.objects(page, size)

    def free_pages(self):
        return items_of(self.memory, PAGES)

    def free_objects(self, size=0):
        return items_of(self.memory, free_cell(size))

    def places(self):
        """Return a pair for each place of an object or a page."""
        found = [("page", page) for page in self.free_pages()]
        for size in range(len(self.layout.sizes)):
            found.extend(("object", number) for number in self.free_objects(size))
        for processor in self.processors:
            found.extend(("object", number) for _, number in processor.objects())
        for call in self.calls:
            numbers, pages = call.holding(self.memory)
            found.extend(("object", number) for number in numbers)
            found.extend(("page", page) for page in pages)
        return sorted(found)

    def wanted(self):
        """Return a pair for each object of a cut page and for each page that is not cut."""
        found = []
        for page in range(self.layout.pages):
            value = self.memory.peek(class_cell(page))
            if value == 0:
                found.append(("page", page))
            else:
                found.extend(("object", number) for number in self.layout.objects(page, value - 1))
        return sorted(found)


def each_weaving(make, look, end):
    """Play the calls of make() to their ends in every order of their steps, and return the number of orders.

    look(story) is called before the first step and after each step, end(story) after the last one.
    """
    path, many = [], 0
    while True:
        story, widths = make(), []
        look(story)
        while alive := [call for call in story.calls if not call.done]:
            if len(widths) == len(path):
                path.append(0)
            step(alive[path[len(widths)]], story.memory)
            widths.append(len(alive))
            look(story)
        end(story)
        many += 1
        while path and path[-1] == widths[len(path) - 1] - 1:
            path.pop()
        if not path:
            return many
        path[-1] += 1

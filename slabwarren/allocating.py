"""The calls that take objects and give them back, one access with each step."""

from slabwarren.stacks import PAGES, Pop, Push, PushAll, free_cell

# What an Allocate does with its next step.
POP_OBJECT = "pop a free object"
POP_PAGE = "pop a free page"
CUT_PAGE = "cut the page"
PUSH_OBJECTS = "push objects of the page"
READ_AGAIN = "read the head of the free objects again"


def class_cell(page):
    """Return the cell that has 0 if a page is not cut, and its size plus 1 otherwise."""
    return ("class", page)


class Allocate:
    """Takes an object of a size: from the hand store, the free objects or a page that it cuts."""

    def __init__(self, layout, processor, size):
        self.layout = layout
        self.processor = processor
        self.size = size
        self.done = False
        self.result = None
        self.page = None
        # The first object of the page that was cut, until it is taken.
        self.first = []
        self.machine = None
        self.empty_head = None
        self.stage = POP_OBJECT
        if processor.stores[size]:
            self.end_with(processor.stores[size].pop())
        else:
            self.seek_object()

    def step(self, memory):
        """Do the next access."""
        if self.stage == POP_OBJECT:
            self.pop_object(memory)
        elif self.stage == POP_PAGE:
            self.pop_page(memory)
        elif self.stage == CUT_PAGE:
            self.cut_page(memory)
        elif self.stage == PUSH_OBJECTS:
            self.push_objects(memory)
        else:
            self.read_again(memory)

    def holding(self, memory):
        """Return the objects and the pages that the call has in its hands."""
        if self.stage == PUSH_OBJECTS:
            return (self.first + self.machine.left, [])
        return ([], [] if self.page is None else [self.page])

    def end_with(self, number):
        """Take an object, which ends the call."""
        self.processor.held.append(number)
        self.result = number
        self.done = True

    def seek_object(self):
        """Begin with the free objects."""
        self.machine = Pop(free_cell(self.size))
        self.stage = POP_OBJECT

    def pop_object(self, memory):
        """Go on with popping an object; without one, a page is needed."""
        self.machine.step(memory)
        if not self.machine.done:
            return
        if self.machine.result is not None:
            self.end_with(self.machine.result)
        else:
            self.empty_head = self.machine.raw
            self.machine = Pop(PAGES)
            self.stage = POP_PAGE

    def pop_page(self, memory):
        """Go on with popping a page."""
        self.machine.step(memory)
        if self.machine.done:
            self.page = self.machine.result
            self.stage = READ_AGAIN if self.page is None else CUT_PAGE

    def read_again(self, memory):
        """Give up, unless the free objects were changed since they were found empty."""
        if memory.read(free_cell(self.size)) == self.empty_head:
            self.done = True
        else:
            self.seek_object()

    def cut_page(self, memory):
        """Make objects of the page: from now on they are in the hands of the call, not the page."""
        memory.write(class_cell(self.page), self.size + 1)
        numbers = self.layout.objects(self.page, self.size)
        self.page = None
        self.first = numbers[:1]
        others = numbers[1:]
        while others and self.processor.has_room(self.size):
            self.processor.stores[self.size].append(others.pop())
        self.machine = PushAll(free_cell(self.size), others)
        self.stage = PUSH_OBJECTS
        self.end_if_pushed()

    def push_objects(self, memory):
        """Go on with pushing what the hand store had no room for."""
        self.machine.step(memory)
        self.end_if_pushed()

    def end_if_pushed(self):
        """Take the first object when all others are where they belong."""
        if not self.machine.done:
            return
        if self.first:
            self.end_with(self.first.pop())
        else:
            # A size that the list tells no objects for is beyond the limit, but it is no error.
            self.done = True


class Give:
    """Gives an object back: to the hand store if it has room, otherwise to the free objects."""

    def __init__(self, layout, processor, number):
        self.layout = layout
        self.processor = processor
        self.number = number
        self.done = False
        self.machine = None
        # What a call has in its hands belongs to nobody else, whether or not the caller saw to it.
        if number in processor.held:
            processor.held.remove(number)

    def step(self, memory):
        """Do the next access."""
        if self.machine is None:
            self.choose_place(memory)
        else:
            self.machine.step(memory)
            self.done = self.machine.done

    def holding(self, memory):
        """Return the objects and the pages that the call has in its hands."""
        return ([] if self.done else [self.number], [])

    def choose_place(self, memory):
        """Read the size of the object, and store the object there or begin to push it."""
        size = memory.read(class_cell(self.layout.page_of(self.number))) - 1
        if self.processor.has_room(size):
            self.processor.stores[size].append(self.number)
            self.done = True
        else:
            self.machine = Push(free_cell(size), self.number)


class Flush:
    """Gives all objects of the hand store of a size to the free objects."""

    def __init__(self, processor, size):
        store = processor.stores[size]
        self.machine = PushAll(free_cell(size), store)
        store.clear()
        self.done = self.machine.done

    def step(self, memory):
        """Do the next access."""
        self.machine.step(memory)
        self.done = self.machine.done

    def holding(self, memory):
        """Return the objects and the pages that the call has in its hands."""
        return (list(self.machine.left), [])

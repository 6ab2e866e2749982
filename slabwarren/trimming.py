"""The call that makes free pages of free objects, one access with each step."""

from slabwarren.allocating import class_cell
from slabwarren.stacks import PAGES, Push, PushAll, TakeAll, free_cell

# What a Trim does with its next step.
TAKE_OBJECTS = "take all free objects"
CLEAR_PAGE = "set the class cell of a page to 0"
PUSH_PAGE = "push the page"
PUSH_OBJECTS = "push the other objects"


class Trim:
    """Gives back each page of which all objects are free."""

    def __init__(self, layout, size):
        self.layout = layout
        self.size = size
        self.done = False
        # The pages to give back whose class cells are not 0 yet, in ascending order.
        self.whole = []
        # The page whose class cell is 0, until it is on the stack.
        self.page = None
        self.machine = TakeAll(free_cell(size))
        self.others = None
        self.stage = TAKE_OBJECTS

    def step(self, memory):
        """Do the next access."""
        if self.stage == TAKE_OBJECTS:
            self.take_objects(memory)
        elif self.stage == CLEAR_PAGE:
            self.clear_page(memory)
        elif self.stage == PUSH_PAGE:
            self.push_page(memory)
        else:
            self.others.step(memory)
            self.done = self.others.done

    def holding(self, memory):
        """Return the objects and the pages that the call has in its hands."""
        if self.stage == TAKE_OBJECTS:
            return (self.machine.holding(memory), [])
        numbers = [number for page in self.whole for number in self.layout.objects(page, self.size)]
        pages = [] if self.page is None else [self.page]
        return (numbers + self.others.left[::-1], pages)

    def take_objects(self, memory):
        """Go on with taking the free objects, and sort them when they are all known."""
        self.machine.step(memory)
        if self.machine.done:
            self.sort_out(sorted(self.machine.taken))
            self.choose_next()

    def sort_out(self, taken):
        """Part the taken objects into whole pages and others."""
        counts = {}
        for number in taken:
            page = self.layout.page_of(number)
            counts[page] = counts.get(page, 0) + 1
        full = self.layout.sizes[self.size]
        self.whole = [page for page in counts if counts[page] == full]
        others = [number for number in taken if counts[self.layout.page_of(number)] != full]
        # The last one is pushed first, and the least one shall be the first.
        self.others = PushAll(free_cell(self.size), others[::-1])

    def choose_next(self):
        """Go on with the next page; after the last one, with the other objects."""
        if self.whole:
            self.stage = CLEAR_PAGE
        else:
            self.stage = PUSH_OBJECTS
            self.done = self.others.done

    def clear_page(self, memory):
        """Make the objects of a page a page that is not cut."""
        page = self.whole.pop(0)
        memory.write(class_cell(page), 0)
        self.page = page
        self.machine = Push(PAGES, page)
        self.stage = PUSH_PAGE

    def push_page(self, memory):
        """Go on with pushing the page."""
        self.machine.step(memory)
        if self.machine.done:
            self.page = None
            self.choose_next()

"""What several tests need: a memory that tells its accesses, and ways to play machines and calls."""

from slabwarren.allocating import class_cell
from slabwarren.layout import Layout
from slabwarren.memory import Memory
from slabwarren.ledger import places_of_objects, places_of_pages
from slabwarren.processor import Processor
from slabwarren.reading import slot_cell
from slabwarren.stacks import PAGES, free_cell, items_of, next_cell
from slabwarren.world import World

# No machine, call or world of the tests does more than this, unless it never ends.
MANY = 10000


class ToldMemory(Memory):
    """A memory that notes each access in the list `told`."""

    def __init__(self):
        super().__init__()
        self.told = []

    def read(self, cell):
        value = super().read(cell)
        self.told.append(("read", cell, value))
        return value

    def write(self, cell, value):
        self.told.append(("write", cell, value))
        return super().write(cell, value)

    def swap(self, cell, old, new):
        changed = super().swap(cell, old, new)
        self.told.append(("swap", cell, old, new, changed))
        return changed


def lay(memory, head, items, tag=0):
    """Make the stack of a head have these items, topmost first, without an access."""
    for item, below in zip(items, [*items[1:], -1]):
        memory.set_up(next_cell(head, item), below + 1)
    memory.set_up(head, (items[0] + 1 if items else 0, tag))


def step(machine, memory):
    """Do one step, which is one access and returns None."""
    before = memory.accesses
    told = machine.step(memory)
    if told is not None or memory.accesses != before + 1:
        raise AssertionError(f"a step returned {told!r} with {memory.accesses - before} accesses")


def play(machine, memory):
    """Do the steps of a machine that are left, and return how many there were."""
    many = 0
    while not machine.done:
        step(machine, memory)
        many += 1
        check_end(many)
    return many


def check_end(many):
    """Fail where something goes on and on."""
    if many > MANY:
        raise AssertionError(f"it has not ended after {MANY} steps")


class Story:
    """A memory with its free pages, some processors, and the calls that are under way."""

    def __init__(self, pages, sizes, processors=1, slots=0):
        self.layout = Layout(pages, sizes)
        self.slots = slots
        self.memory = ToldMemory()
        self.processors = [Processor(number, len(sizes)) for number in range(processors)]
        self.calls = []
        lay(self.memory, PAGES, list(range(pages)))

    def cut(self, page, size):
        """Make a page that is on no stack a page of a size, and return its objects."""
        self.memory.set_up(class_cell(page), size + 1)
        return self.layout.objects(page, size)

    def free_pages(self):
        return items_of(self.memory, PAGES)

    def free_objects(self, size=0):
        return items_of(self.memory, free_cell(size))

    def places(self):
        """Return a pair for each place of an object or a page."""
        found = [("page", page) for page in self.free_pages()]
        for size in range(len(self.layout.sizes)):
            found.extend(("object", number) for number in self.free_objects(size))
        values = [self.memory.peek(slot_cell(slot)) for slot in range(self.slots)]
        found.extend(("object", value - 1) for value in values if value != 0)
        for processor in self.processors:
            found.extend(("object", number) for _, number in processor.objects())
        for call in self.calls:
            numbers, pages = call.holding(self.memory)
            found.extend(("object", number) for number in numbers)
            found.extend(("page", page) for page in pages)
        return sorted(found)

    def wanted(self):
        """Return a pair for each object of a cut page and for each page that is not cut."""
        found = []
        for page in range(self.layout.pages):
            value = self.memory.peek(class_cell(page))
            if value == 0:
                found.append(("page", page))
            else:
                found.extend(("object", number) for number in self.layout.objects(page, value - 1))
        return sorted(found)


def each_path(play_one):
    """Call play_one(choose) once for each way of choosing in it, and return the number of ways.

    choose(many) returns a number below many.
    """
    path, ways = [], 0
    while True:
        widths = []

        def choose(many):
            if len(widths) == len(path):
                path.append(0)
            widths.append(many)
            return path[len(widths) - 1]

        play_one(choose)
        ways += 1
        while path and path[-1] == widths[len(path) - 1] - 1:
            path.pop()
        if not path:
            return ways
        path[-1] += 1


def each_weaving(make, look, end):
    """Play the calls of make() to their ends in every order of their steps, and return the number of orders.

    look(story) is called before the first step and after each step, end(story) after the last one.
    """
    def play_one(choose):
        story = make()
        look(story)
        while alive := [call for call in story.calls if not call.done]:
            step(alive[choose(len(alive))], story.memory)
            look(story)
        end(story)

    return each_path(play_one)


class ToldWorld(World):
    """A world that notes each of its events in the list `told`."""

    def __init__(self, *given):
        super().__init__(*given)
        self.told = []

    def do(self, event):
        self.told.append(event)
        check_end(len(self.told))
        return super().do(event)


def run(world, *event):
    """Let a processor begin a call, and do its steps until it is done; return how many there were."""
    world.do(("call", *event))
    processor = world.processors[event[0] % len(world.processors)]
    many = 0
    while processor.running is not None:
        world.do(("step", event[0]))
        many += 1
        check_end(many)
    return many


def draws(seed):
    """Yield numbers that look as if they were drawn, the same ones for the same seed."""
    state = seed * 7919 + 1
    while True:
        state = state * 48271 % 2147483647
        yield state // 7


WORDS = ("allocate", "allocate", "allocate", "give", "flush", "trim", "publish", "publish", "unpublish", "unpublish",
         "retire", "retire", "sweep", "sweep", "enter", "enter", "leave", "look", "look", "look")


def draw_event(world, numbers):
    """Return an event for a world; indexes are also negative, or greater than what they point into."""
    index = next(numbers) % (3 * len(world.processors)) - len(world.processors)
    if next(numbers) % 4 > 0:
        return ("step", index)
    word = WORDS[next(numbers) % len(WORDS)]
    size, slot, k = (next(numbers) % many for many in (len(world.layout.sizes), max(1, world.slots), 9))
    if word in ("allocate", "flush", "trim"):
        return ("call", index, word, size)
    if word in ("give", "retire"):
        return ("call", index, word, k - 4)
    if word in ("sweep", "enter", "leave"):
        return ("call", index, word)
    if world.slots == 0:
        return ("step", index)
    return ("call", index, word, slot, k - 4) if word == "publish" else ("call", index, word, slot)


class WatchedWorld(World):
    """A world that checks after each of its events what the document promises at every moment."""

    def __init__(self, case, *given):
        super().__init__(*given)
        self.case = case
        # The content that the running Publish of a processor has, and those of the objects that were published.
        self.pending = {}
        self.contents = {}
        # What the running Look of a processor must find, and the objects that a processor may still read.
        self.expected = {}
        self.readable = [set() for _ in self.processors]

    def slot_values(self):
        return [self.memory.peek(slot_cell(slot)) for slot in range(self.slots)]

    def do(self, event):
        processor = self.processors[event[1] % len(self.processors)]
        call, word = processor.running, processor.word
        before, seen, accesses, moment = self.slot_values(), list(self.seen), self.memory.accesses, self.moment
        self.case.assertIsNone(super().do(event))
        steps = 1 if event[0] == "step" and call is not None else 0
        self.case.assertEqual((self.moment, self.memory.accesses), (moment + 1, accesses + steps))
        check_end(self.moment)
        if event[0] == "call" and call is None and processor.word == "publish":
            self.pending[processor.number] = moment + 1
        self.note_published(before, processor.number)
        found = self.look(processor, call) if steps and word == "look" else []
        self.case.assertEqual(self.seen, seen + found)
        if not processor.is_reading:
            self.readable[processor.number].clear()
        self.check_places()
        self.check_readable()

    def note_published(self, before, number):
        """Note the content of the object that the processor has put into a slot, if it has."""
        for old, new in zip(before, self.slot_values()):
            if new not in (old, 0):
                self.contents[new - 1] = self.pending[number]

    def look(self, processor, call):
        """Return what the step of a Look must add to what was seen."""
        number = processor.number
        if number not in self.expected:
            value = self.memory.peek(slot_cell(call.slot))
            self.expected[number] = None
            if value != 0:
                self.expected[number] = (value - 1, self.contents[value - 1])
                self.readable[number].add(value - 1)
                self.case.assertIs(processor.running, call)
                return []
        self.case.assertIsNone(processor.running)
        return [(self.moment, number, call.slot, self.expected.pop(number))]

    def check_places(self):
        """Check what the ledger tells, and that everything that must be somewhere is in one place."""
        wanted, uncut = [], []
        for page in range(self.layout.pages):
            value = self.memory.peek(class_cell(page))
            if value == 0:
                uncut.append(page)
            else:
                wanted.extend(self.layout.objects(page, value - 1))
        objects, pages = self.places()
        self.case.assertEqual((places_of_objects(self), places_of_pages(self)), (objects, pages))
        self.case.assertEqual(sorted(number for number, _ in objects), wanted)
        self.case.assertEqual(sorted(page for page, _ in pages), uncut)

    def places(self):
        """Return what the ledger must tell of the objects and of the pages."""
        heads = [free_cell(size) for size in range(len(self.layout.sizes))]
        objects = [(number, "free") for head in heads for number in items_of(self.memory, head)]
        objects.extend((value - 1, "published") for value in self.slot_values() if value != 0)
        pages = [(page, "free") for page in items_of(self.memory, PAGES)]
        for processor in self.processors:
            objects.extend((number, "store") for store in processor.stores for number in store)
            objects.extend((number, "held") for number in processor.held)
            objects.extend((number, "unlinked") for number in processor.unlinked)
            objects.extend((number, "retired") for number, _ in processor.retired)
            if processor.running is not None:
                numbers, cut = processor.running.holding(self.memory)
                objects.extend((number, "call") for number in numbers)
                pages.extend((page, "call") for page in cut)
        return objects, pages

    def check_readable(self):
        """Check that nothing that may still be read is given out anew."""
        readable = set().union(*self.readable)
        if not readable:
            return
        words = dict(places_of_objects(self))
        retiring = [number for processor in self.processors if processor.word == "retire"
                    for number in processor.running.holding(self.memory)[0]]
        for number in readable.difference(retiring):
            self.case.assertIn(words[number], ("published", "unlinked", "retired"))

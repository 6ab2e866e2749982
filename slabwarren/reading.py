"""The calls that publish objects, read them, and give them back when nobody can still read them."""

from slabwarren.allocating import Give

EPOCH = ("epoch",)

# What a Publish or a Retire does with its next step.
WRITE_CONTENT = "write the content of the object"
READ_CELL = "read the slot or the epoch"
SWAP_CELL = "swap the slot or the epoch"


def slot_cell(slot):
    """Return the cell of a slot: it has the published object plus 1, or 0."""
    return ("slot", slot)


def content_cell(number):
    """Return the cell for the content of an object."""
    return ("content", number)


def reading_cell(processor):
    """Return the cell of the processor with a number: an epoch plus 1 if it reads, 0 otherwise."""
    return ("reading", processor)


class Publish:
    """Puts an object, or none, into a slot; the object that was there becomes unlinked."""

    def __init__(self, processor, slot, number, content):
        self.processor = processor
        self.slot = slot
        self.number = number
        self.content = content
        self.done = False
        self.raw = None
        self.stage = READ_CELL if number is None else WRITE_CONTENT
        # What a call has in its hands belongs to nobody else, whether or not the caller saw to it.
        if number in processor.held:
            processor.held.remove(number)

    def step(self, memory):
        """Do the next access."""
        if self.stage == WRITE_CONTENT:
            # Whoever finds the object in the slot shall find its content, too.
            memory.write(content_cell(self.number), self.content)
            self.stage = READ_CELL
        elif self.stage == READ_CELL:
            self.raw = memory.read(slot_cell(self.slot))
            self.stage = SWAP_CELL
        else:
            self.swap_slot(memory)

    def holding(self, memory):
        """Return the objects and the pages that the call has in its hands."""
        if self.done or self.number is None:
            return ([], [])
        return ([self.number], [])

    def swap_slot(self, memory):
        """Change the slot, or read it again if it was changed meanwhile."""
        new = 0 if self.number is None else self.number + 1
        if not memory.swap(slot_cell(self.slot), self.raw, new):
            self.stage = READ_CELL
            return
        if self.raw != 0:
            self.processor.unlinked.append(self.raw - 1)
        self.done = True


class Retire:
    """Gives an unlinked object a stamp that tells which readers may still read it."""

    def __init__(self, processor, number):
        self.processor = processor
        self.number = number
        self.done = False
        self.epoch = 0
        self.stage = READ_CELL
        # As with a Publish: the object is in the hands of the call alone.
        if number in processor.unlinked:
            processor.unlinked.remove(number)

    def step(self, memory):
        """Do the next access."""
        if self.stage == READ_CELL:
            self.epoch = memory.read(EPOCH)
            self.stage = SWAP_CELL
        else:
            self.swap_epoch(memory)

    def holding(self, memory):
        """Return the objects and the pages that the call has in its hands."""
        return ([] if self.done else [self.number], [])

    def swap_epoch(self, memory):
        """Make the epoch grow, or read it again if it grew meanwhile."""
        if memory.swap(EPOCH, self.epoch, self.epoch + 1):
            self.processor.retired.append((self.number, self.epoch))
            self.done = True
        else:
            self.stage = READ_CELL


class Enter:
    """Lets a processor read from now on."""

    def __init__(self, processor):
        self.processor = processor
        self.done = False
        self.epoch = None

    def step(self, memory):
        """Do the next access."""
        if self.epoch is None:
            self.epoch = memory.read(EPOCH)
        else:
            memory.write(reading_cell(self.processor.number), self.epoch + 1)
            self.processor.is_reading = True
            self.done = True

    def holding(self, memory):
        """Return the objects and the pages that the call has in its hands: none."""
        return ([], [])


class Leave:
    """Lets a processor read no more."""

    def __init__(self, processor):
        self.processor = processor
        self.done = False

    def step(self, memory):
        """Do the only access."""
        memory.write(reading_cell(self.processor.number), 0)
        self.processor.is_reading = False
        self.done = True

    def holding(self, memory):
        """Return the objects and the pages that the call has in its hands: none."""
        return ([], [])


class Look:
    """Reads the object of a slot and its content."""

    def __init__(self, slot):
        self.slot = slot
        self.done = False
        self.result = None
        self.number = None

    def step(self, memory):
        """Do the next access."""
        if self.number is None:
            self.read_slot(memory)
        else:
            self.result = (self.number, memory.read(content_cell(self.number)))
            self.done = True

    def holding(self, memory):
        """Return the objects and the pages that the call has in its hands: looking takes nothing."""
        return ([], [])

    def read_slot(self, memory):
        """Read the slot; at an empty one there is nothing more to do."""
        value = memory.read(slot_cell(self.slot))
        if value == 0:
            self.done = True
        else:
            self.number = value - 1


class Sweep:
    """Gives back those retired objects of a processor that nobody can still read."""

    def __init__(self, layout, processor, processors):
        self.layout = layout
        self.processor = processor
        self.processors = processors
        self.done = False
        # How many reading cells were read, and the epochs of the processors that read.
        self.asked = 0
        self.epochs = []
        # The objects that are given back after the one that is being given back.
        self.waiting = []
        self.giving = None

    def step(self, memory):
        """Do the next access."""
        if self.giving is None:
            self.ask_next(memory)
        else:
            self.giving.step(memory)
            if self.giving.done:
                self.give_next()

    def holding(self, memory):
        """Return the objects and the pages that the call has in its hands."""
        if self.giving is None:
            return ([], [])
        numbers, _ = self.giving.holding(memory)
        return (numbers + self.waiting, [])

    def ask_next(self, memory):
        """Read the reading cell of one processor; after the last one, begin to give back."""
        value = memory.read(reading_cell(self.asked))
        if value != 0:
            self.epochs.append(value - 1)
        self.asked += 1
        if self.asked >= self.processors:
            self.take_past()
            self.give_next()

    def is_past(self, stamp):
        """Tell whether each processor that reads began after the object with the stamp was retired."""
        return all(stamp < epoch for epoch in self.epochs)

    def take_past(self):
        """Take the retired objects that nobody can still read into the hands of the call."""
        retired = self.processor.retired
        self.waiting = [number for number, stamp in retired if self.is_past(stamp)]
        staying = [(number, stamp) for number, stamp in retired if not self.is_past(stamp)]
        retired.clear()
        retired.extend(staying)

    def give_next(self):
        """Begin to give the next object back; without one, all is done."""
        if self.waiting:
            self.giving = Give(self.layout, self.processor, self.waiting.pop(0))
        else:
            self.done = True

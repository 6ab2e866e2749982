"""The world: shared memory and the processors, whose calls are woven by events."""

from slabwarren.allocating import Allocate, Flush, Give
from slabwarren.errors import Misused
from slabwarren.layout import Layout
from slabwarren.memory import Memory
from slabwarren.processor import Processor
from slabwarren.reading import Enter, Leave, Look, Publish, Retire, Sweep
from slabwarren.stacks import PAGES, next_cell
from slabwarren.trimming import Trim


class World:
    """Pages, processors and slots; each event leads to the next moment."""

    def __init__(self, pages, sizes, processors, slots):
        self.layout = Layout(pages, sizes)
        self.memory = Memory()
        self.processors = [Processor(number, len(sizes)) for number in range(processors)]
        self.slots = slots
        self.moment = 0
        # What each Look has found: (moment, processor, slot, result).
        self.seen = []
        self.free_all_pages()

    def do(self, event):
        """Do an event: begin a call of a processor, or do one step of its call."""
        kind = event[0]
        if kind not in ("call", "step"):
            raise Misused(kind)
        # A world without processors is beyond the limit, but it is no error.
        if self.processors:
            processor = self.processors[event[1] % len(self.processors)]
            if kind == "call":
                self.begin_call(processor, event[2], event[3:])
            else:
                self.do_step(processor)
        # An event that is refused leads nowhere, so this comes last.
        self.moment += 1

    def free_all_pages(self):
        """Lay all pages on the stack of free pages, the lowest number on top, without an access."""
        top = 0
        for page in reversed(range(self.layout.pages)):
            self.memory.set_up(next_cell(PAGES, page), top)
            top = page + 1
        self.memory.set_up(PAGES, (top, 0))

    def begin_call(self, processor, word, rest):
        """Begin the call of a word, if the processor has none and the word's condition holds."""
        if processor.running is not None:
            return
        call = self.call_of(processor, word, rest)
        if call is not None:
            processor.running = call
            processor.word = word
            self.end_if_done(processor)

    def do_step(self, processor):
        """Do one step of the call of a processor, if it has one."""
        if processor.running is not None:
            processor.running.step(self.memory)
            self.end_if_done(processor)

    def end_if_done(self, processor):
        """End the call of a processor if it is done."""
        call = processor.running
        if not call.done:
            return
        if processor.word == "look":
            self.seen.append((self.moment + 1, processor.number, call.slot, call.result))
        processor.running = None
        processor.word = ""

    def call_of(self, processor, word, rest):
        """Make the call of a word, or return None if its condition does not hold."""
        match word:
            case "allocate":
                return Allocate(self.layout, processor, rest[0])
            case "give":
                return self.make_give(processor, rest[0])
            case "flush":
                return Flush(processor, rest[0])
            case "trim":
                return Trim(self.layout, rest[0])
            case "publish":
                return self.make_publish(processor, rest[0], rest[1])
            case "unpublish":
                return Publish(processor, rest[0], None, None)
            case "retire":
                return self.make_retire(processor, rest[0])
            case "sweep":
                return Sweep(self.layout, processor, len(self.processors))
            case "enter":
                return None if processor.is_reading else Enter(processor)
            case "leave":
                return Leave(processor) if processor.is_reading else None
            case "look":
                return Look(rest[0]) if processor.is_reading else None
            case _:
                raise Misused(word)

    def make_give(self, processor, k):
        """Make the Give of an object that the processor holds, if there is one."""
        held = processor.held
        return Give(self.layout, processor, held[k % len(held)]) if held else None

    def make_publish(self, processor, slot, k):
        """Make the Publish of an object that the processor holds, if there is one."""
        held = processor.held
        return Publish(processor, slot, held[k % len(held)], self.moment + 1) if held else None

    def make_retire(self, processor, k):
        """Make the Retire of an unlinked object of the processor, if there is one."""
        unlinked = processor.unlinked
        return Retire(processor, unlinked[k % len(unlinked)]) if unlinked else None

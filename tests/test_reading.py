import unittest

from playing import Story, ToldMemory, each_weaving, lay, play, step
from slabwarren import reading as reading_file
from slabwarren.allocating import Allocate, class_cell
from slabwarren.processor import Processor
from slabwarren.reading import (
    EPOCH, Enter, Leave, Look, Publish, Retire, Sweep, content_cell, reading_cell, slot_cell)
from slabwarren.stacks import PAGES, Push, free_cell

NOTHING = ([], [])
CALLS = (Publish, Retire, Enter, Leave, Look, Sweep)


def record(call, memory):
    """Play a call, and return whether it is done and what it holds, before the first step and after each."""
    seen = [(call.done, call.holding(memory))]
    while not call.done:
        step(call, memory)
        seen.append((call.done, call.holding(memory)))
    return seen


class NameTest(unittest.TestCase):
    def test_cells(self):
        self.assertEqual(EPOCH, ("epoch",))
        self.assertEqual([slot_cell(0), slot_cell(7)], [("slot", 0), ("slot", 7)])
        self.assertEqual([content_cell(0), content_cell(7)], [("content", 0), ("content", 7)])
        self.assertEqual([reading_cell(0), reading_cell(7)], [("reading", 0), ("reading", 7)])


class PublishTest(unittest.TestCase):
    def make(self, inside=0):
        memory, processor = ToldMemory(), Processor(0, 1)
        processor.unlinked.extend([9, 3])
        memory.set_up(("slot", 2), inside)
        return memory, processor

    def test_into_an_empty_slot(self):
        memory, processor = self.make()
        call = Publish(processor, 2, 5, 44)
        self.assertEqual((call.done, memory.accesses), (False, 0))
        mine = (False, ([5], []))
        self.assertEqual(record(call, memory), [mine, mine, mine, (True, NOTHING)])
        self.assertEqual(memory.told, [
            ("write", ("content", 5), 44), ("read", ("slot", 2), 0), ("swap", ("slot", 2), 0, 6, True)])
        self.assertEqual(processor.objects(), [("unlinked", 9), ("unlinked", 3)])

    def test_in_the_place_of_another_object(self):
        memory, processor = self.make(8)
        call = Publish(processor, 2, 5, 44)
        for _ in range(2):
            step(call, memory)
            self.assertEqual((memory.peek(("slot", 2)), processor.unlinked), (8, [9, 3]))
        step(call, memory)
        self.assertEqual((call.done, memory.peek(("slot", 2)), processor.unlinked), (True, 6, [9, 3, 7]))
        self.assertEqual(memory.told[1:], [("read", ("slot", 2), 8), ("swap", ("slot", 2), 8, 6, True)])

    def test_object_0(self):
        memory, processor = self.make(1)
        self.assertEqual(record(Publish(processor, 2, 7, 0), memory)[0], (False, ([7], [])))
        self.assertEqual((processor.unlinked, memory.peek(("content", 7))), ([9, 3, 0], 0))
        mine = (False, ([0], []))
        self.assertEqual(record(Publish(processor, 2, 0, 6), memory), [mine, mine, mine, (True, NOTHING)])
        self.assertEqual((memory.peek(("slot", 2)), memory.peek(("content", 0))), (1, 6))
        self.assertEqual(processor.unlinked, [9, 3, 0, 7])

    def test_without_an_object(self):
        memory, processor = self.make(8)
        call = Publish(processor, 2, None, 44)
        self.assertEqual(record(call, memory), [(False, NOTHING), (False, NOTHING), (True, NOTHING)])
        self.assertEqual(memory.told, [("read", ("slot", 2), 8), ("swap", ("slot", 2), 8, 0, True)])
        self.assertEqual(processor.objects(), [("unlinked", 9), ("unlinked", 3), ("unlinked", 7)])

    def test_without_an_object_into_an_empty_slot(self):
        memory, processor = self.make()
        self.assertEqual(play(Publish(processor, 2, None, None), memory), 2)
        self.assertEqual(memory.told, [("read", ("slot", 2), 0), ("swap", ("slot", 2), 0, 0, True)])
        self.assertEqual(processor.unlinked, [9, 3])

    def test_a_swap_that_fails_reads_again_and_writes_no_content_again(self):
        memory, processor = self.make(8)
        call = Publish(processor, 2, 5, 44)
        for value in (2, 0):
            step(call, memory)
            step(call, memory)
            memory.set_up(("slot", 2), value)
        step(call, memory)
        self.assertEqual((call.done, call.holding(memory), processor.unlinked), (False, ([5], []), [9, 3]))
        play(call, memory)
        self.assertEqual(memory.told, [
            ("write", ("content", 5), 44), ("read", ("slot", 2), 8), ("swap", ("slot", 2), 8, 6, False),
            ("read", ("slot", 2), 2), ("swap", ("slot", 2), 2, 6, False),
            ("read", ("slot", 2), 0), ("swap", ("slot", 2), 0, 6, True)])
        self.assertEqual((call.holding(memory), processor.unlinked), (NOTHING, [9, 3]))

    def test_a_swap_without_an_object_that_fails_reads_again(self):
        memory, processor = self.make()
        call = Publish(processor, 2, None, None)
        step(call, memory)
        memory.set_up(("slot", 2), 5)
        step(call, memory)
        self.assertEqual((call.done, processor.unlinked), (False, [9, 3]))
        self.assertEqual((play(call, memory), processor.unlinked), (2, [9, 3, 4]))
        self.assertEqual(memory.peek(("slot", 2)), 0)

    def test_an_object_that_went_and_came_again_is_unlinked(self):
        memory, processor = self.make(8)
        call = Publish(processor, 2, 5, 44)
        step(call, memory)
        step(call, memory)
        memory.set_up(("slot", 2), 2)
        memory.set_up(("slot", 2), 8)
        step(call, memory)
        self.assertEqual((call.done, processor.unlinked), (True, [9, 3, 7]))

    def test_the_object_belongs_to_the_call_from_the_beginning(self):
        memory, processor = self.make()
        processor.held.extend([4, 5, 6])
        call = Publish(processor, 2, 5, 44)
        self.assertEqual((processor.held, call.holding(memory)), ([4, 6], ([5], [])))
        play(call, memory)
        self.assertEqual(processor.held, [4, 6])
        play(Publish(processor, 2, None, None), memory)
        self.assertEqual((processor.held, processor.unlinked), ([4, 6], [9, 3, 5]))

    def test_other_slots_stay(self):
        memory, processor = self.make(8)
        memory.set_up(("slot", 0), 3)
        play(Publish(processor, 2, 5, 44), memory)
        play(Publish(processor, 2, None, None), memory)
        self.assertEqual((memory.peek(("slot", 0)), processor.unlinked), (3, [9, 3, 7, 5]))


class RetireTest(unittest.TestCase):
    def test_its_accesses(self):
        memory, processor = ToldMemory(), Processor(0, 1)
        processor.retired.append((2, 0))
        call = Retire(processor, 5)
        mine = (False, ([5], []))
        self.assertEqual(record(call, memory), [mine, mine, (True, NOTHING)])
        self.assertEqual(memory.told, [("read", EPOCH, 0), ("swap", EPOCH, 0, 1, True)])
        self.assertEqual(processor.retired, [(2, 0), (5, 0)])

    def test_the_object_is_retired_with_the_swap_only(self):
        memory, processor = ToldMemory(), Processor(0, 1)
        memory.set_up(EPOCH, 6)
        call = Retire(processor, 0)
        step(call, memory)
        self.assertEqual((processor.retired, memory.peek(EPOCH)), ([], 6))
        step(call, memory)
        self.assertEqual((processor.retired, memory.peek(EPOCH)), ([(0, 6)], 7))

    def test_the_stamp_is_the_epoch_that_was_read_when_the_swap_succeeded(self):
        memory, processor = ToldMemory(), Processor(0, 1)
        memory.set_up(EPOCH, 6)
        call = Retire(processor, 5)
        for epoch in (8, 11):
            step(call, memory)
            memory.set_up(EPOCH, epoch)
            step(call, memory)
            self.assertEqual((call.done, call.holding(memory), processor.retired), (False, ([5], []), []))
        self.assertEqual((play(call, memory), processor.retired, memory.peek(EPOCH)), (2, [(5, 11)], 12))
        self.assertEqual(memory.told, [
            ("read", EPOCH, 6), ("swap", EPOCH, 6, 7, False), ("read", EPOCH, 8), ("swap", EPOCH, 8, 9, False),
            ("read", EPOCH, 11), ("swap", EPOCH, 11, 12, True)])

    def test_the_object_belongs_to_the_call_from_the_beginning(self):
        memory, processor = ToldMemory(), Processor(0, 1)
        processor.unlinked.extend([4, 5, 6])
        call = Retire(processor, 5)
        self.assertEqual((processor.unlinked, call.holding(memory)), ([4, 6], ([5], [])))
        play(call, memory)
        self.assertEqual(processor.objects(), [("unlinked", 4), ("unlinked", 6), ("retired", 5)])


class EnterAndLeaveTest(unittest.TestCase):
    def test_enter(self):
        memory, processor = ToldMemory(), Processor(3, 1)
        memory.set_up(EPOCH, 6)
        call = Enter(processor)
        self.assertEqual((call.done, processor.is_reading, call.holding(memory)), (False, False, NOTHING))
        step(call, memory)
        self.assertEqual((call.done, processor.is_reading, memory.peek(("reading", 3))), (False, False, 0))
        self.assertEqual(call.holding(memory), NOTHING)
        step(call, memory)
        self.assertEqual((call.done, processor.is_reading, memory.peek(("reading", 3))), (True, True, 7))
        self.assertIs(processor.is_reading, True)
        self.assertEqual(memory.told, [("read", EPOCH, 6), ("write", ("reading", 3), 7)])
        self.assertEqual(call.holding(memory), NOTHING)

    def test_an_epoch_that_was_never_changed(self):
        memory, processor = ToldMemory(), Processor(0, 1)
        self.assertEqual(play(Enter(processor), memory), 2)
        self.assertEqual((processor.is_reading, memory.peek(("reading", 0))), (True, 1))

    def test_the_epoch_is_the_one_that_was_read(self):
        memory, processor = ToldMemory(), Processor(0, 1)
        call = Enter(processor)
        step(call, memory)
        memory.set_up(EPOCH, 4)
        play(call, memory)
        self.assertEqual((memory.accesses, memory.peek(("reading", 0)), memory.peek(EPOCH)), (2, 1, 4))

    def test_leave(self):
        memory, processor = ToldMemory(), Processor(3, 1)
        memory.set_up(EPOCH, 6)
        play(Enter(processor), memory)
        call = Leave(processor)
        self.assertEqual((call.done, processor.is_reading, memory.peek(("reading", 3))), (False, True, 7))
        self.assertEqual((call.holding(memory), memory.accesses), (NOTHING, 2))
        step(call, memory)
        self.assertEqual((call.done, processor.is_reading, memory.peek(("reading", 3))), (True, False, 0))
        self.assertIs(processor.is_reading, False)
        self.assertEqual((call.holding(memory), memory.told[2:]), (NOTHING, [("write", ("reading", 3), 0)]))

    def test_each_processor_has_a_cell_of_its_own(self):
        memory, first, second = ToldMemory(), Processor(0, 1), Processor(1, 1)
        play(Enter(first), memory)
        memory.set_up(EPOCH, 3)
        play(Enter(second), memory)
        play(Leave(first), memory)
        self.assertEqual((memory.peek(("reading", 0)), memory.peek(("reading", 1))), (0, 4))
        self.assertEqual((first.is_reading, second.is_reading), (False, True))


class LookTest(unittest.TestCase):
    def test_fields_at_first(self):
        call = Look(4)
        self.assertEqual((call.slot, call.done, call.result), (4, False, None))

    def test_an_empty_slot(self):
        memory, call = ToldMemory(), Look(4)
        self.assertEqual(record(call, memory), [(False, NOTHING), (True, NOTHING)])
        self.assertEqual((call.slot, call.result, memory.told), (4, None, [("read", ("slot", 4), 0)]))

    def test_an_object(self):
        memory, call = ToldMemory(), Look(4)
        memory.set_up(("slot", 4), 8)
        memory.set_up(("content", 7), 55)
        step(call, memory)
        self.assertEqual((call.done, call.result, call.holding(memory)), (False, None, NOTHING))
        step(call, memory)
        self.assertEqual((call.done, call.slot, call.result, call.holding(memory)), (True, 4, (7, 55), NOTHING))
        self.assertEqual(memory.told, [("read", ("slot", 4), 8), ("read", ("content", 7), 55)])

    def test_object_0_with_the_content_0(self):
        memory, call = ToldMemory(), Look(0)
        memory.set_up(("slot", 0), 1)
        self.assertEqual((play(call, memory), call.result), (2, (0, 0)))

    def test_the_object_is_the_one_that_was_read(self):
        memory, call = ToldMemory(), Look(0)
        memory.set_up(("slot", 0), 8)
        memory.set_up(("content", 7), 55)
        step(call, memory)
        memory.set_up(("slot", 0), 0)
        self.assertEqual((play(call, memory), call.result), (1, (7, 55)))


class SweepTest(unittest.TestCase):
    def make(self, retired, readers=(), number=0, processors=3, store=()):
        """Return a story whose processor with a number has retired objects; the readers are pairs (number, epoch)."""
        story = Story(9, [4, 2], processors)
        for page in {story.layout.page_of(item) for item in [*store, *(item for item, _ in retired)]}:
            story.memory.set_up(class_cell(page), 1)
        story.processors[number].retired.extend(retired)
        story.processors[number].stores[0].extend(store)
        for reader, epoch in readers:
            story.memory.set_up(("reading", reader), epoch + 1)
        return story, story.processors[number]

    def sweep(self, story, processor):
        """Play a Sweep; return what is given back, in order, and what stays retired."""
        call = Sweep(story.layout, processor, len(story.processors))
        for _ in story.processors:
            step(call, story.memory)
        given = call.holding(story.memory)[0]
        play(call, story.memory)
        return given, processor.retired

    def test_nothing_is_retired(self):
        for processors in (1, 2, 5):
            story, processor = self.make([], processors=processors)
            call = Sweep(story.layout, processor, processors)
            self.assertEqual((call.done, call.holding(story.memory)), (False, NOTHING))
            self.assertEqual(record(call, story.memory), [(False, NOTHING)] * processors + [(True, NOTHING)])
            self.assertEqual(story.memory.told, [("read", ("reading", k), 0) for k in range(processors)])

    def test_nobody_reads(self):
        story, processor = self.make([(5, 8), (1, 2), (6, 0)], number=1)
        call = Sweep(story.layout, processor, 3)
        seen = []
        while not call.done:
            step(call, story.memory)
            seen.append((call.holding(story.memory), list(processor.retired), list(processor.stores[0])))
        before = (NOTHING, [(5, 8), (1, 2), (6, 0)], [])
        self.assertEqual(seen, [
            before, before, (([5, 1, 6], []), [], []), (([1, 6], []), [], [5]), (([6], []), [], [5, 1]),
            (NOTHING, [], [5, 1, 6])])
        self.assertEqual(story.memory.told, [
            ("read", ("reading", 0), 0), ("read", ("reading", 1), 0), ("read", ("reading", 2), 0),
            ("read", ("class", 1), 1), ("read", ("class", 0), 1), ("read", ("class", 1), 1)])

    def test_the_list_of_the_retired_stays_the_same_list(self):
        story, processor = self.make([(5, 8), (1, 2)], [(0, 3)])
        retired = processor.retired
        self.sweep(story, processor)
        self.assertIs(processor.retired, retired)
        self.assertEqual(retired, [(5, 8)])

    def test_stamps_beside_the_epoch_of_one_reader(self):
        for reader in range(3):
            story, processor = self.make([(0, 4), (1, 5), (2, 6)], [(reader, 5)])
            self.assertEqual(self.sweep(story, processor), ([0], [(1, 5), (2, 6)]))

    def test_the_epoch_0(self):
        story, processor = self.make([(0, 0), (1, 1)], [(2, 0)])
        self.assertEqual(self.sweep(story, processor), ([], [(0, 0), (1, 1)]))
        story, processor = self.make([(0, 0), (1, 1)], [(2, 1)])
        self.assertEqual(self.sweep(story, processor), ([0], [(1, 1)]))

    def test_the_processor_itself_reads(self):
        for number in range(3):
            story, processor = self.make([(0, 4), (1, 5)], [(number, 5)], number)
            self.assertEqual(self.sweep(story, processor), ([0], [(1, 5)]))

    def test_several_that_read(self):
        for readers in ([(0, 9), (1, 5), (2, 7)], [(0, 5), (2, 9)], [(1, 9), (2, 5)]):
            story, processor = self.make([(4, 9), (0, 4), (1, 5), (5, 1), (2, 6)], readers)
            self.assertEqual(self.sweep(story, processor), ([0, 5], [(4, 9), (1, 5), (2, 6)]))

    def test_processors_beyond_the_number_are_not_asked(self):
        story, processor = self.make([(0, 4)], [(3, 0)])
        self.assertEqual(self.sweep(story, processor), ([0], []))

    def test_the_cells_are_read_one_by_one(self):
        story, processor = self.make([(0, 4)], [(2, 0)])
        call = Sweep(story.layout, processor, 3)
        step(call, story.memory)
        story.memory.set_up(("reading", 0), 1)
        step(call, story.memory)
        story.memory.set_up(("reading", 2), 0)
        step(call, story.memory)
        self.assertEqual((call.holding(story.memory), processor.retired), (([0], []), []))

    def test_what_others_have_retired_stays(self):
        story, processor = self.make([(0, 4)])
        story.processors[1].retired.append((1, 0))
        self.sweep(story, processor)
        self.assertEqual((story.processors[0].retired, story.processors[1].retired), ([], [(1, 0)]))
        self.assertEqual([processor.stores[0] for processor in story.processors], [[0], [], []])

    def test_a_full_hand_store(self):
        story, processor = self.make([(4, 0), (0, 0), (5, 0)], processors=1, store=[1, 2])
        lay(story.memory, free_cell(0), [6])
        call = Sweep(story.layout, processor, 1)
        seen = []
        while not call.done:
            step(call, story.memory)
            seen.append((call.holding(story.memory)[0], story.free_objects()))
        three, two, one = ([4, 0, 5], [6]), ([0, 5], [6]), ([5], [0, 6])
        self.assertEqual(seen, [three, two, two, two, two, one, one, one, one, ([], [5, 0, 6])])
        self.assertEqual(processor.stores[0], [1, 2, 4])
        self.assertEqual(story.memory.told[1:6], [
            ("read", ("class", 1), 1), ("read", ("class", 0), 1),
            ("read", free_cell(0), (7, 0)), ("write", ("object below", 0), 7),
            ("swap", free_cell(0), (7, 0), (1, 1), True)])

    def test_a_push_whose_swap_fails(self):
        story, processor = self.make([(4, 0), (5, 0)], processors=1, store=[1, 2, 3])
        call = Sweep(story.layout, processor, 1)
        for _ in range(4):
            step(call, story.memory)
        play(Push(free_cell(0), 7), story.memory)
        step(call, story.memory)
        self.assertEqual((call.holding(story.memory), story.free_objects()), (([4, 5], []), [7]))
        play(call, story.memory)
        self.assertEqual((call.holding(story.memory), story.free_objects()), (NOTHING, [5, 4, 7]))

    def test_objects_of_several_sizes(self):
        story, processor = self.make([(9, 0), (0, 0), (8, 0), (1, 0)], processors=1)
        story.memory.set_up(class_cell(2), 2)
        processor.stores[1].extend([4, 5])
        self.assertEqual(self.sweep(story, processor), ([9, 0, 8, 1], []))
        self.assertEqual(processor.stores, [[0, 1], [4, 5, 9]])
        self.assertEqual((story.free_objects(0), story.free_objects(1)), ([], [8]))

    def test_holding_makes_no_access_and_shares_nothing(self):
        story, processor = self.make([(4, 0), (5, 0)], processors=1, store=[1, 2])
        call = Sweep(story.layout, processor, 1)
        while not call.done:
            step(call, story.memory)
            before, accesses = [list(row) for row in call.holding(story.memory)], story.memory.accesses
            for row in call.holding(story.memory):
                row.append(99)
            self.assertEqual((list(call.holding(story.memory)), story.memory.accesses), (before, accesses))

    def test_no_processors_raise_no_error(self):
        story, processor = self.make([(4, 0)], processors=1)
        play(Sweep(story.layout, processor, 0), story.memory)
        self.assertEqual((processor.retired, processor.stores[0]), ([], [4]))


class HoldingTest(unittest.TestCase):
    def test_it_shares_nothing(self):
        memory, processor = ToldMemory(), Processor(0, 1)
        for call in (Publish(processor, 0, 5, 1), Publish(processor, 0, None, 1), Retire(processor, 5),
                     Enter(processor), Leave(processor), Look(0)):
            before = [list(row) for row in call.holding(memory)]
            self.assertIs(type(call.holding(memory)), tuple)
            for row in call.holding(memory):
                row.append(99)
            self.assertEqual((list(call.holding(memory)), memory.accesses), (before, 0))


class WovenCallsTest(unittest.TestCase):
    """Calls of several processors, their steps in every order."""

    def weave(self, make, end_of):
        """Play the calls of make() in every order, and return the different ends."""
        ends = []

        def look(story):
            self.assertEqual(story.places(), story.wanted())

        def end(story):
            found = end_of(story)
            if found not in ends:
                ends.append(found)

        self.assertGreater(each_weaving(make, look, end), 1)
        return sorted(ends)

    def story(self, slot=None):
        """Return a story of three processors with a cut page and a slot; the third one holds what is not published."""
        story = Story(1, [4], 3, 1)
        lay(story.memory, PAGES, [])
        numbers = story.cut(0, 0)
        if slot is not None:
            numbers.remove(slot)
            story.memory.set_up(slot_cell(0), slot + 1)
        story.processors[2].held.extend(numbers)
        return story

    def publish(self, story, number, item):
        story.processors[2].held.remove(item)
        story.processors[number].held.append(item)
        return Publish(story.processors[number], 0, item, item + 10)

    def ends(self, story):
        return (story.memory.peek(slot_cell(0)), story.processors[0].unlinked, story.processors[1].unlinked)

    def test_two_publish(self):
        def make():
            story = self.story(3)
            story.calls = [self.publish(story, number, number) for number in range(2)]
            return story

        self.assertEqual(self.weave(make, self.ends), [(1, [1], [3]), (2, [3], [0])])

    def test_publish_and_unpublish(self):
        def make():
            story = self.story()
            story.calls = [self.publish(story, 0, 1), Publish(story.processors[1], 0, None, None)]
            return story

        self.assertEqual(self.weave(make, self.ends), [(0, [], [1]), (2, [], [])])

    def test_two_retire(self):
        def make():
            story = self.story()
            story.processors[2].held.remove(0)
            story.processors[2].held.remove(1)
            for number in range(2):
                story.processors[number].unlinked.append(number)
            story.calls = [Retire(story.processors[number], number) for number in range(2)]
            return story

        self.assertEqual(self.weave(make, lambda story: [story.processors[number].retired for number in range(2)]),
                         [[[(0, 0)], [(1, 1)]], [[(0, 1)], [(1, 0)]]])

    def test_sweep_and_allocate(self):
        def make():
            story = self.story()
            processor = story.processors[0]
            story.processors[2].held.clear()
            processor.stores[0].extend([1, 2, 3])
            processor.retired.append((0, 0))
            story.calls = [Sweep(story.layout, processor, 2), Allocate(story.layout, story.processors[1], 0)]
            return story

        self.assertEqual(self.weave(make, lambda story: (story.processors[1].held, story.free_objects())),
                         [([], [0]), ([0], [])])

    def test_publish_and_look(self):
        def make():
            story = self.story(3)
            story.memory.set_up(content_cell(3), 13)
            story.calls = [self.publish(story, 0, 1), Look(0)]
            return story

        self.assertEqual(self.weave(make, lambda story: story.calls[1].result), [(1, 11), (3, 13)])


class InterfaceTest(unittest.TestCase):
    def test_all_is_defined_in_its_file(self):
        for made in (*CALLS, slot_cell, content_cell, reading_cell):
            self.assertEqual(made.__module__, reading_file.__name__)

    def test_the_methods_stand_in_the_classes_themselves(self):
        for made in CALLS:
            for name in ("step", "holding"):
                self.assertIn(name, vars(made))

    def test_arguments_go_by_their_names(self):
        story = Story(1, [4])
        processor = story.processors[0]
        calls = [
            Publish(processor=processor, slot=0, number=1, content=5), Enter(processor=processor), Look(slot=0),
            Leave(processor=processor), Retire(processor=processor, number=2),
            Sweep(layout=story.layout, processor=processor, processors=1)]
        story.cut(0, 0)
        for call in calls:
            self.assertIs(call.done, False)
            while not call.done:
                self.assertEqual(call.holding(memory=story.memory)[1], [])
                self.assertIsNone(call.step(memory=story.memory))
            self.assertIs(call.done, True)
        self.assertEqual((calls[2].result, processor.stores), ((1, 5), [[2]]))
        self.assertEqual((slot_cell(slot=1), content_cell(number=2), reading_cell(processor=3)),
                         (("slot", 1), ("content", 2), ("reading", 3)))


if __name__ == "__main__":
    unittest.main()

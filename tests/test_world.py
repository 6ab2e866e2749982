import unittest

from playing import run
from slabwarren import world as world_file
from slabwarren.allocating import Allocate, Flush, Give, class_cell
from slabwarren.errors import Misused, Refused
from slabwarren.layout import Layout
from slabwarren.memory import Memory
from slabwarren.processor import Processor
from slabwarren.reading import EPOCH, Enter, Leave, Look, Publish, Retire, Sweep, content_cell, reading_cell, slot_cell
from slabwarren.stacks import PAGES, free_cell, items_of, next_cell
from slabwarren.trimming import Trim
from slabwarren.world import World


def private(world):
    """Return what the processors have, and what the calls have in their hands."""
    return [(processor.objects(), processor.word, processor.is_reading) for processor in world.processors]


class BeginningTest(unittest.TestCase):
    def test_fields(self):
        world = World(3, [4, 2], 2, 5)
        self.assertIsInstance(world.layout, Layout)
        self.assertIsInstance(world.memory, Memory)
        self.assertEqual((world.layout.pages, world.layout.sizes), (3, [4, 2]))
        self.assertEqual((world.slots, world.moment, world.seen, world.memory.accesses), (5, 0, [], 0))

    def test_processors(self):
        world = World(3, [4, 2], 2, 5)
        self.assertIsInstance(world.processors, list)
        self.assertEqual([processor.number for processor in world.processors], [0, 1])
        for processor in world.processors:
            self.assertIsInstance(processor, Processor)
            self.assertEqual((processor.stores, processor.objects()), ([[], []], []))
            self.assertEqual((processor.running, processor.word, processor.is_reading), (None, "", False))

    def test_all_pages_are_free_the_lowest_on_top(self):
        for pages in range(5):
            world = World(pages, [4], 1, 0)
            self.assertEqual(items_of(world.memory, PAGES), list(range(pages)))
            self.assertEqual(world.memory.peek(PAGES), (1 if pages else 0, 0))

    def test_the_cells_of_the_pages(self):
        world = World(3, [4], 1, 0)
        self.assertEqual([world.memory.peek(next_cell(PAGES, page)) for page in range(3)], [2, 3, 0])

    def test_nothing_else_is_there(self):
        world = World(3, [4, 2], 2, 2)
        cells = [free_cell(0), free_cell(1), EPOCH, slot_cell(0), slot_cell(1), reading_cell(0), reading_cell(1)]
        cells.extend([class_cell(page) for page in range(3)] + [content_cell(number) for number in range(12)])
        self.assertEqual([world.memory.peek(cell) for cell in cells], [0] * len(cells))

    def test_the_list_of_sizes_is_not_shared(self):
        sizes = [4, 2]
        world = World(3, sizes, 1, 0)
        sizes.append(9)
        self.assertEqual((world.layout.sizes, len(world.processors[0].stores)), ([4, 2], 2))

    def test_a_world_without_processors_raises_no_error(self):
        world = World(3, [4], 0, 1)
        for event in (("call", 0, "allocate", 0), ("step", 0)):
            world.do(event)
        self.assertEqual((world.processors, world.moment), ([], 2))


class MomentTest(unittest.TestCase):
    def test_each_event_leads_to_the_next_moment(self):
        world = World(1, [2], 2, 1)
        events = [("step", 0), ("call", 0, "give", 0), ("call", 1, "leave"), ("call", 0, "allocate", 0),
                  ("call", 0, "allocate", 0), ("step", 0), ("step", 1), ("call", 0, "sweep"), ("call", 1, "flush", 0)]
        for moment, event in enumerate(events):
            self.assertEqual(world.moment, moment)
            self.assertIsNone(world.do(event))
        self.assertEqual(world.moment, len(events))

    def test_a_step_without_a_call_changes_nothing_else(self):
        world = World(1, [2], 2, 1)
        world.do(("call", 0, "allocate", 0))
        world.do(("step", 1))
        self.assertEqual((world.memory.accesses, world.moment, world.processors[0].word), (0, 2, "allocate"))

    def test_a_call_is_no_access(self):
        world = World(1, [2], 1, 1)
        world.do(("call", 0, "sweep"))
        self.assertEqual(world.memory.accesses, 0)
        for accesses in range(1, 2):
            world.do(("step", 0))
            self.assertEqual(world.memory.accesses, accesses)

    def test_an_event_may_be_a_list(self):
        world = World(1, [2], 1, 1)
        world.do(["call", 0, "allocate", 0])
        world.do(["step", 0])
        self.assertEqual((world.moment, world.memory.accesses), (2, 1))


class CallTest(unittest.TestCase):
    def made(self, world, *event):
        """Return the class of the call that an event begins, or None, and the call's word."""
        world.do(("call", *event))
        processor = world.processors[event[0] % len(world.processors)]
        return (None if processor.running is None else type(processor.running)), processor.word

    def full(self):
        """Return a world in which the first processor has something of each kind."""
        world = World(4, [5, 2], 2, 2)
        world.processors[0].held.extend([0, 1, 2])
        world.processors[0].unlinked.extend([3, 4, 5, 6])
        world.processors[0].stores[1].append(10)
        for page, value in ((0, 1), (1, 1), (2, 2)):
            world.memory.set_up(class_cell(page), value)
        return world

    def test_the_words_and_their_calls(self):
        for event, call in (
                (("allocate", 0), Allocate), (("flush", 1), Flush), (("trim", 0), Trim), (("give", 0), Give),
                (("publish", 1, 0), Publish), (("unpublish", 1), Publish), (("retire", 0), Retire),
                (("sweep",), Sweep), (("enter",), Enter)):
            self.assertEqual(self.made(self.full(), 0, *event), (call, event[0]))
        for event, call in ((("leave",), Leave), (("look", 1), Look)):
            world = self.full()
            world.processors[0].is_reading = True
            self.assertEqual(self.made(world, 0, *event), (call, event[0]))

    def test_running_and_word_behind_a_call(self):
        world = World(2, [2], 2, 0)
        processor = world.processors[1]
        world.do(("call", 1, "allocate", 0))
        call = processor.running
        for _ in range(4):
            world.do(("step", 1))
            self.assertIs(processor.running, call)
            self.assertEqual((processor.word, world.processors[0].running), ("allocate", None))
        world.do(("step", 1))
        self.assertEqual((call.done, processor.running, processor.word), (True, None, ""))

    def test_a_call_that_is_done_when_it_is_made_is_ended_at_once(self):
        world = World(2, [2], 1, 0)
        processor = world.processors[0]
        for _ in range(2):
            world.do(("call", 0, "flush", 0))
            self.assertEqual((processor.running, processor.word, world.memory.accesses), (None, "", 0))
        processor.stores[0].append(1)
        world.do(("call", 0, "allocate", 0))
        self.assertEqual((processor.running, processor.word, processor.held, world.moment), (None, "", [1], 3))

    def test_the_sizes(self):
        world = World(3, [4, 2], 1, 0)
        self.assertEqual(run(world, 0, "allocate", 1), 5)
        self.assertEqual((world.processors[0].held, world.processors[0].stores), ([0], [[], [1]]))
        run(world, 0, "flush", 1)
        self.assertEqual((items_of(world.memory, free_cell(0)), items_of(world.memory, free_cell(1))), ([], [1]))
        run(world, 0, "give", 0)
        run(world, 0, "flush", 1)
        run(world, 0, "trim", 0)
        self.assertEqual(items_of(world.memory, PAGES), [1, 2])
        run(world, 0, "trim", 1)
        self.assertEqual(items_of(world.memory, PAGES), [0, 1, 2])

    def test_the_processor_is_an_index_modulo_the_number(self):
        for index, number in ((0, 0), (2, 2), (3, 0), (7, 1), (-1, 2), (-5, 1)):
            world = World(2, [2], 3, 0)
            world.do(("call", index, "enter"))
            self.assertEqual([processor.word for processor in world.processors].index("enter"), number)
            world.do(("step", index + 3))
            world.do(("step", index - 6))
            self.assertEqual([processor.is_reading for processor in world.processors].index(True), number)
            self.assertEqual(world.memory.peek(reading_cell(number)), 1)

    def test_k_is_an_index_modulo_the_length(self):
        for k, number in ((0, 0), (2, 2), (3, 0), (10, 1), (-1, 2), (-6, 0)):
            world = self.full()
            held = [item for item in (0, 1, 2) if item != number]
            world.do(("call", 0, "give", k))
            self.assertEqual(world.processors[0].running.holding(world.memory), ([number], []))
            self.assertEqual(world.processors[0].held, held)
            world = self.full()
            world.do(("call", 0, "publish", 1, k))
            self.assertEqual(world.processors[0].running.holding(world.memory), ([number], []))
            self.assertEqual(world.processors[0].held, held)
        for k, number in ((0, 3), (3, 6), (5, 4), (-1, 6)):
            world = self.full()
            world.do(("call", 0, "retire", k))
            self.assertEqual(world.processors[0].running.holding(world.memory), ([number], []))
            self.assertEqual(world.processors[0].unlinked, [item for item in (3, 4, 5, 6) if item != number])
            self.assertEqual(world.processors[0].held, [0, 1, 2])

    def test_empty_lists_begin_no_call(self):
        world = World(2, [2], 2, 1)
        world.processors[1].held.append(0)
        world.processors[1].unlinked.append(1)
        before = private(world)
        for event in (("give", 0), ("publish", 0, 0), ("retire", 0)):
            self.assertEqual(self.made(world, 0, *event), (None, ""))
        self.assertEqual((private(world), world.moment, world.memory.accesses), (before, 3, 0))

    def test_enter_while_reading_begins_no_call(self):
        world = World(2, [2], 2, 1)
        run(world, 0, "enter")
        world.memory.set_up(EPOCH, 5)
        self.assertEqual(self.made(world, 0, "enter"), (None, ""))
        self.assertEqual((world.moment, world.memory.peek(reading_cell(0))), (4, 1))
        self.assertEqual(self.made(world, 1, "enter"), (Enter, "enter"))

    def test_leave_and_look_while_not_reading_begin_no_call(self):
        world = World(2, [2], 2, 1)
        run(world, 1, "enter")
        for event in (("leave",), ("look", 0)):
            self.assertEqual(self.made(world, 0, *event), (None, ""))
        run(world, 1, "leave")
        for event in (("leave",), ("look", 0)):
            self.assertEqual(self.made(world, 1, *event), (None, ""))
        self.assertEqual((world.moment, world.seen), (9, []))

    def test_a_call_asked_of_a_processor_that_has_one_begins_no_call(self):
        world = self.full()
        world.processors[0].is_reading = True
        world.do(("call", 0, "sweep"))
        call, before = world.processors[0].running, private(world)
        for event in (("allocate", 1), ("flush", 1), ("trim", 0), ("give", 0), ("publish", 1, 0), ("unpublish", 1),
                      ("retire", 0), ("sweep",), ("leave",), ("look", 1)):
            world.do(("call", 0, *event))
            self.assertIs(world.processors[0].running, call)
            self.assertEqual(private(world), before)
        self.assertEqual((world.moment, world.memory.accesses), (11, 0))

    def test_calls_of_several_processors_are_under_way(self):
        world = World(2, [1], 2, 0)
        for index in (0, 1):
            world.do(("call", index, "allocate", 0))
        for _ in range(5):
            world.do(("step", 1))
        for _ in range(5):
            world.do(("step", 0))
        self.assertEqual([processor.held for processor in world.processors], [[1], [0]])

    def test_sweep_asks_all_processors(self):
        world = World(2, [2], 3, 0)
        self.assertEqual(run(world, 1, "sweep"), 3)
        world.processors[0].retired.append((0, 0))
        world.memory.set_up(class_cell(0), 1)
        run(world, 2, "enter")
        run(world, 0, "sweep")
        self.assertEqual(world.processors[0].retired, [(0, 0)])


class PublishTest(unittest.TestCase):
    def test_the_content_is_the_number_of_the_next_moment(self):
        world = World(2, [2], 1, 2)
        run(world, 0, "allocate", 0)
        run(world, 0, "allocate", 0)
        moment = world.moment
        world.do(("call", 0, "publish", 1, 1))
        world.do(("step", 0))
        self.assertEqual((moment, world.memory.peek(content_cell(1))), (7, 8))
        world.do(("step", 0))
        world.do(("step", 0))
        self.assertEqual((world.memory.peek(slot_cell(1)), world.processors[0].running), (2, None))
        run(world, 0, "publish", 1, 0)
        self.assertEqual((world.memory.peek(content_cell(0)), world.processors[0].unlinked), (12, [1]))

    def test_the_first_moment(self):
        world = World(2, [2], 1, 1)
        world.processors[0].held.append(0)
        run(world, 0, "publish", 0, 0)
        self.assertEqual(world.memory.peek(content_cell(0)), 1)

    def test_unpublish(self):
        world = World(2, [2], 2, 2)
        run(world, 0, "allocate", 0)
        self.assertEqual(run(world, 0, "publish", 1, 0), 3)
        self.assertEqual(run(world, 1, "unpublish", 0), 2)
        self.assertEqual([processor.unlinked for processor in world.processors], [[], []])
        self.assertEqual(run(world, 1, "unpublish", 1), 2)
        self.assertEqual([processor.unlinked for processor in world.processors], [[], [0]])
        self.assertEqual(world.memory.peek(slot_cell(1)), 0)

    def test_retire_and_sweep(self):
        world = World(1, [2], 2, 1)
        run(world, 0, "allocate", 0)
        run(world, 0, "publish", 0, 0)
        run(world, 1, "unpublish", 0)
        self.assertEqual(run(world, 1, "retire", 0), 2)
        self.assertEqual((world.processors[1].unlinked, world.processors[1].retired), ([], [(0, 0)]))
        self.assertEqual(run(world, 1, "sweep"), 3)
        self.assertEqual(world.processors[1].objects(), [("store", 0)])


class SeenTest(unittest.TestCase):
    def reading(self):
        world = World(2, [2], 2, 2)
        run(world, 0, "allocate", 0)
        run(world, 0, "publish", 1, 0)
        run(world, 1, "enter")
        return world

    def test_a_look_at_an_object(self):
        world = self.reading()
        moment = world.moment
        world.do(("call", 1, "look", 1))
        world.do(("step", 1))
        self.assertEqual(world.seen, [])
        world.do(("step", 1))
        self.assertEqual(world.seen, [(moment + 3, 1, 1, (0, 7))])
        self.assertEqual((world.moment, world.processors[1].running), (moment + 3, None))

    def test_a_look_at_an_empty_slot(self):
        world = self.reading()
        moment = world.moment
        self.assertEqual(run(world, 3, "look", 0), 1)
        self.assertEqual(world.seen, [(moment + 2, 1, 0, None)])

    def test_each_look_is_added_at_the_end(self):
        world = self.reading()
        run(world, 1, "look", 0)
        run(world, 1, "look", 1)
        world.do(("step", 0))
        run(world, 1, "look", 0)
        self.assertEqual(world.seen, [(15, 1, 0, None), (18, 1, 1, (0, 7)), (21, 1, 0, None)])

    def test_other_calls_add_nothing(self):
        world = self.reading()
        for event in (("allocate", 0), ("publish", 0, 0), ("unpublish", 0), ("retire", 0), ("sweep",), ("leave",)):
            run(world, 1, *event)
        self.assertEqual(world.seen, [])

    def test_a_reader_sees_the_content_although_the_object_is_swept(self):
        world = self.reading()
        world.do(("call", 1, "look", 1))
        world.do(("step", 1))
        run(world, 0, "unpublish", 1)
        run(world, 0, "retire", 0)
        run(world, 0, "sweep")
        self.assertEqual(world.processors[0].retired, [(0, 0)])
        for _ in range(3):
            run(world, 0, "allocate", 0)
        self.assertEqual(world.processors[0].held, [1, 2, 3])
        for _ in range(3):
            run(world, 0, "publish", 1, 0)
        world.do(("step", 1))
        self.assertEqual(world.seen[-1][2:], (1, (0, 7)))
        run(world, 1, "leave")
        run(world, 0, "sweep")
        self.assertEqual(world.processors[0].stores, [[0]])

    def test_a_reader_that_entered_later_keeps_no_object_back(self):
        world = self.reading()
        run(world, 0, "unpublish", 1)
        run(world, 1, "leave")
        run(world, 0, "retire", 0)
        run(world, 1, "enter")
        run(world, 0, "sweep")
        self.assertEqual((world.processors[0].retired, world.processors[0].stores), ([], [[1, 0]]))


class MisusedTest(unittest.TestCase):
    def refuse(self, world, event, word):
        """Let a world refuse an event; nothing changes by it."""
        before = (private(world), world.moment, world.memory.accesses, list(world.seen))
        with self.assertRaises(Misused) as caught:
            world.do(event)
        self.assertIsInstance(caught.exception, Refused)
        self.assertEqual(caught.exception.word, word)
        self.assertEqual((private(world), world.moment, world.memory.accesses, world.seen), before)

    def test_a_first_element_that_is_neither_call_nor_step(self):
        world = World(2, [2], 2, 1)
        for word in ("", "Call", "steps", "allocate", "c"):
            self.refuse(world, (word, 0, "allocate", 0), word)
            self.refuse(world, (word, 0), word)

    def test_it_is_refused_beside_a_call_as_well(self):
        world = World(2, [2], 2, 1)
        world.do(("call", 0, "allocate", 0))
        self.refuse(world, ("go", 0), "go")
        self.refuse(world, ("go", 1), "go")

    def test_a_word_that_is_not_in_the_table(self):
        world = World(2, [2], 2, 1)
        world.do(("call", 0, "allocate", 0))
        for word in ("", "take", "Allocate", "step", "call", "free"):
            self.refuse(world, ("call", 1, word, 0), word)
            self.refuse(world, ("call", -1, word), word)

    def test_a_processor_with_a_call_is_not_asked(self):
        world = World(2, [2], 2, 1)
        world.do(("call", 0, "allocate", 0))
        call = world.processors[0].running
        self.assertIsNone(world.do(("call", 0, "take", 0)))
        self.assertIsNone(world.do(("call", 2, "take", 0)))
        self.assertIs(world.processors[0].running, call)
        self.assertEqual((world.moment, world.processors[0].word), (3, "allocate"))

    def test_the_step_of_a_processor_has_no_word(self):
        world = World(2, [2], 1, 1)
        world.do(("step", 0))
        self.assertEqual(world.moment, 1)


class InterfaceTest(unittest.TestCase):
    def test_the_class_is_defined_in_its_file(self):
        self.assertEqual(World.__module__, world_file.__name__)
        self.assertIn("do", vars(World))

    def test_arguments_go_by_their_names(self):
        world = World(pages=2, sizes=[3], processors=4, slots=5)
        world.do(event=("step", 0))
        self.assertEqual((world.layout.pages, world.layout.sizes, len(world.processors), world.slots, world.moment),
                         (2, [3], 4, 5, 1))


if __name__ == "__main__":
    unittest.main()

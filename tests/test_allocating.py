import unittest

from playing import Story, lay, play, step
from slabwarren import allocating as allocating_file
from slabwarren.allocating import Allocate, Flush, Give, class_cell
from slabwarren.stacks import PAGES, Pop, Push, free_cell, items_of

FREE = free_cell(0)
NOTHING = ([], [])


def below(number):
    return ("object below", number)


def begin_allocate(story, size=0):
    call = Allocate(story.layout, story.processors[0], size)
    story.calls.append(call)
    return call


def record(case, call, story, *look):
    """Play a call, and return what look tells after each step; all is in one place at each moment."""
    seen = []
    while not call.done:
        step(call, story.memory)
        case.assertEqual(story.places(), story.wanted())
        seen.append(tuple(tell() for tell in look))
    return seen


class ClassCellTest(unittest.TestCase):
    def test_its_name(self):
        self.assertEqual([class_cell(page) for page in (0, 7)], [("class", 0), ("class", 7)])

    def test_its_value(self):
        story = Story(3, [2, 1])
        self.assertEqual([story.memory.peek(class_cell(page)) for page in range(3)], [0, 0, 0])
        play(Allocate(story.layout, story.processors[0], 1), story.memory)
        play(Allocate(story.layout, story.processors[0], 0), story.memory)
        self.assertEqual([story.memory.peek(class_cell(page)) for page in range(3)], [2, 1, 0])


class AllocateFromStoreTest(unittest.TestCase):
    def test_it_is_done_when_it_is_made(self):
        story = Story(1, [4])
        processor = story.processors[0]
        processor.stores[0].extend([3, 1, 2])
        processor.held.append(0)
        call = begin_allocate(story)
        self.assertEqual((call.done, call.result, story.memory.told), (True, 2, []))
        self.assertEqual((processor.stores, processor.held), ([[3, 1]], [0, 2]))
        self.assertEqual(call.holding(story.memory), NOTHING)

    def test_object_0(self):
        story = Story(1, [1])
        story.processors[0].stores[0].append(0)
        call = begin_allocate(story)
        self.assertEqual((call.done, call.result, story.processors[0].held), (True, 0, [0]))

    def test_each_size_has_its_own_store(self):
        story = Story(2, [2, 2])
        story.processors[0].stores[0].append(1)
        call = begin_allocate(story, 1)
        self.assertEqual((call.done, call.result), (False, None))
        play(call, story.memory)
        self.assertEqual((call.result, story.processors[0].stores), (0, [[1], [1]]))

    def test_the_free_objects_are_left_alone(self):
        story = Story(0, [4])
        lay(story.memory, FREE, [3, 2])
        story.processors[0].stores[0].append(1)
        self.assertEqual((begin_allocate(story).result, story.free_objects()), (1, [3, 2]))


class AllocateFreeObjectTest(unittest.TestCase):
    def make(self):
        story = Story(3, [4, 2])
        lay(story.memory, PAGES, [1, 2])
        story.cut(0, 0)
        lay(story.memory, FREE, [3, 0], 5)
        story.processors[0].held.extend([2, 1])
        return story

    def test_a_free_object_is_taken(self):
        story = self.make()
        call = begin_allocate(story)
        self.assertEqual((call.done, call.result, story.memory.accesses), (False, None, 0))
        seen = record(self, call, story, lambda: call.done, lambda: call.holding(story.memory))
        self.assertEqual(seen, [(False, NOTHING), (False, NOTHING), (True, NOTHING)])
        self.assertEqual((call.result, story.processors[0].held), (3, [2, 1, 3]))
        self.assertEqual((story.free_objects(), story.free_pages()), ([0], [1, 2]))
        self.assertEqual(story.memory.told, [
            ("read", FREE, (4, 5)), ("read", below(3), 1), ("swap", FREE, (4, 5), (1, 6), True)])

    def test_object_0_is_an_object(self):
        story = self.make()
        lay(story.memory, FREE, [0])
        story.processors[0].held.append(3)
        call = begin_allocate(story)
        self.assertEqual((play(call, story.memory), call.result), (3, 0))
        self.assertEqual(story.processors[0].held, [2, 1, 3, 0])

    def test_the_stacks_of_other_sizes_do_not_count(self):
        story = self.make()
        call = begin_allocate(story, 1)
        play(call, story.memory)
        self.assertEqual((call.result, story.free_objects(0), story.free_pages()), (4, [3, 0], [2]))

    def test_a_swap_that_fails_begins_anew(self):
        story = self.make()
        call = begin_allocate(story)
        step(call, story.memory)
        other = Pop(FREE)
        play(other, story.memory)
        self.assertEqual((play(call, story.memory), other.result, call.result), (5, 3, 0))


class AllocateCutTest(unittest.TestCase):
    def test_a_page_of_six(self):
        story = Story(4, [2, 6])
        lay(story.memory, PAGES, [2, 0, 1, 3], 8)
        call = begin_allocate(story, 1)
        processor = story.processors[0]
        seen = record(self, call, story, lambda: call.holding(story.memory),
                      lambda: list(processor.stores[1]), lambda: story.free_objects(1), lambda: list(processor.held))
        nothing, page = (NOTHING, [], [], []), (([], [2]), [], [], [])
        three = (([12, 13, 14], []), [17, 16, 15], [], [])
        two = (([12, 13], []), [17, 16, 15], [14], [])
        self.assertEqual(seen, [
            nothing, nothing, nothing, page, three, three, three, two, two, two,
            (NOTHING, [17, 16, 15], [13, 14], [12])])
        self.assertEqual((call.done, call.result), (True, 12))
        self.assertEqual((processor.stores[0], story.free_objects(0), story.free_pages()), ([], [], [0, 1, 3]))

    def test_its_accesses(self):
        story = Story(2, [5])
        call = begin_allocate(story)
        play(call, story.memory)
        free = free_cell(0)
        self.assertEqual(story.memory.told, [
            ("read", free, 0),
            ("read", PAGES, (1, 0)), ("read", ("page below", 0), 2), ("swap", PAGES, (1, 0), (2, 1), True),
            ("write", ("class", 0), 1),
            ("read", free, 0), ("write", below(1), 0), ("swap", free, 0, (2, 1), True)])
        self.assertEqual((call.result, story.processors[0].stores), (0, [[4, 3, 2]]))

    def test_as_many_as_the_hand_store_holds(self):
        story = Story(1, [4])
        call = begin_allocate(story)
        self.assertEqual((play(call, story.memory), call.result), (5, 0))
        self.assertEqual((story.processors[0].stores, story.free_objects()), ([[3, 2, 1]], []))

    def test_two_objects(self):
        story = Story(2, [2])
        call = begin_allocate(story)
        self.assertEqual((play(call, story.memory), call.result), (5, 0))
        self.assertEqual((story.processors[0].held, story.processors[0].stores), ([0], [[1]]))

    def test_one_object(self):
        story = Story(2, [4, 1])
        call = begin_allocate(story, 1)
        seen = record(self, call, story, lambda: call.holding(story.memory))
        self.assertEqual(seen, [(NOTHING,), (NOTHING,), (NOTHING,), (([], [0]),), (NOTHING,)])
        self.assertEqual((call.result, story.processors[0].held, story.processors[0].stores), (0, [0], [[], []]))
        self.assertEqual((story.memory.peek(class_cell(0)), story.free_objects(1)), (2, []))

    def test_a_second_page_of_one_object(self):
        story = Story(3, [4, 1])
        for number in (0, 4, 8):
            call = begin_allocate(story, 1)
            self.assertEqual((play(call, story.memory), call.result), (5, number))
        self.assertEqual((story.processors[0].held, story.free_pages()), ([0, 4, 8], []))

    def test_an_object_goes_to_the_end_of_what_is_held(self):
        story = Story(3, [1])
        story.processors[0].held.append(99)
        play(begin_allocate(story), story.memory)
        self.assertEqual(story.processors[0].held, [99, 0])

    def test_the_page_is_not_cut_before_its_class_cell_is_written(self):
        story = Story(1, [2])
        call = begin_allocate(story)
        for _ in range(4):
            self.assertEqual(story.memory.peek(class_cell(0)), 0)
            step(call, story.memory)
        self.assertEqual((call.holding(story.memory), story.memory.peek(class_cell(0))), (([], [0]), 0))
        step(call, story.memory)
        self.assertEqual((call.done, story.memory.peek(class_cell(0))), (True, 1))

    def test_a_swap_at_the_pages_that_fails_begins_anew(self):
        story = Story(3, [1])
        call = begin_allocate(story)
        for _ in range(3):
            step(call, story.memory)
        other = Pop(PAGES)
        play(other, story.memory)
        self.assertEqual((play(call, story.memory), other.result, call.result), (5, 0, 1))

    def test_a_swap_at_the_free_objects_that_fails_pushes_the_same_object_again(self):
        story = Story(1, [6])
        call = begin_allocate(story)
        for _ in range(7):
            step(call, story.memory)
        lay(story.memory, FREE, [77], 1)
        step(call, story.memory)
        self.assertEqual((call.holding(story.memory), story.free_objects()), (([0, 1, 2], []), [77]))
        self.assertEqual(play(call, story.memory), 6)
        self.assertEqual((story.free_objects(), call.result), ([1, 2, 77], 0))

    def test_holding_makes_no_access_and_shares_nothing(self):
        story = Story(1, [6])
        call = begin_allocate(story)
        for accesses in range(1, 12):
            if not call.done:
                step(call, story.memory)
            before = [list(row) for row in call.holding(story.memory)]
            for row in call.holding(story.memory):
                row.append(99)
            self.assertEqual(list(call.holding(story.memory)), before)
            self.assertEqual(story.memory.accesses, min(accesses, 11))

    def test_a_size_without_objects_raises_no_error(self):
        story = Story(1, [0, 2])
        call = begin_allocate(story)
        self.assertEqual((play(call, story.memory), call.result), (5, None))
        self.assertEqual((story.processors[0].held, call.holding(story.memory)), ([], NOTHING))


class AllocateWithoutPageTest(unittest.TestCase):
    def test_a_head_that_was_never_changed(self):
        story = Story(0, [2])
        call = begin_allocate(story)
        seen = record(self, call, story, lambda: call.done, lambda: call.holding(story.memory))
        self.assertEqual(seen, [(False, NOTHING), (False, NOTHING), (True, NOTHING)])
        self.assertEqual((call.result, story.processors[0].held), (None, []))
        self.assertEqual(story.memory.told, [("read", FREE, 0), ("read", PAGES, (0, 0)), ("read", FREE, 0)])

    def test_an_empty_head_that_was_in_use(self):
        story = Story(0, [2])
        story.memory.set_up(FREE, (0, 6))
        call = begin_allocate(story)
        self.assertEqual((play(call, story.memory), call.result), (3, None))

    def test_each_size_looks_at_its_own_head(self):
        story = Story(1, [2, 2])
        lay(story.memory, PAGES, [])
        story.cut(0, 0)
        lay(story.memory, FREE, [1, 0])
        call = begin_allocate(story, 1)
        self.assertEqual((play(call, story.memory), call.result), (3, None))
        self.assertEqual(story.memory.told[2], ("read", free_cell(1), 0))

    def blocked(self):
        """Return a story without a free page, and a call that is about to read the head again."""
        story = Story(1, [2])
        lay(story.memory, PAGES, [])
        story.cut(0, 0)
        story.memory.set_up(FREE, (0, 4))
        call = begin_allocate(story)
        step(call, story.memory)
        step(call, story.memory)
        return story, call

    def test_an_object_that_came_meanwhile(self):
        story, call = self.blocked()
        lay(story.memory, FREE, [1, 0], 6)
        step(call, story.memory)
        self.assertEqual((call.done, story.processors[0].held, story.free_objects()), (False, [], [1, 0]))
        self.assertEqual((play(call, story.memory), call.result), (3, 1))
        self.assertEqual((story.processors[0].held, story.free_objects()), ([1], [0]))
        self.assertEqual(story.memory.told[2:], [
            ("read", FREE, (2, 6)), ("read", FREE, (2, 6)), ("read", below(1), 1),
            ("swap", FREE, (2, 6), (1, 7), True)])

    def test_an_object_that_came_and_went_meanwhile(self):
        story, call = self.blocked()
        lay(story.memory, FREE, [], 6)
        step(call, story.memory)
        self.assertFalse(call.done)
        self.assertEqual((play(call, story.memory), call.result), (3, None))
        self.assertEqual(story.memory.told[2:], [
            ("read", FREE, (0, 6)), ("read", FREE, (0, 6)), ("read", PAGES, (0, 0)), ("read", FREE, (0, 6))])

    def test_a_page_that_came_meanwhile(self):
        story, call = self.blocked()
        lay(story.memory, FREE, [], 6)
        step(call, story.memory)
        lay(story.memory, PAGES, [0], 1)
        story.memory.set_up(class_cell(0), 0)
        self.assertEqual((play(call, story.memory), call.result), (5, 0))

    def test_a_page_that_came_without_a_change_of_the_objects_is_not_seen(self):
        story, call = self.blocked()
        lay(story.memory, PAGES, [0], 1)
        story.memory.set_up(class_cell(0), 0)
        self.assertEqual((play(call, story.memory), call.result), (1, None))

    def test_the_value_of_the_last_step_1_counts(self):
        story = Story(0, [2])
        lay(story.memory, FREE, [1], 3)
        call = begin_allocate(story)
        step(call, story.memory)
        step(call, story.memory)
        lay(story.memory, FREE, [], 4)
        for _ in range(3):
            step(call, story.memory)
        self.assertFalse(call.done)
        step(call, story.memory)
        self.assertEqual((call.done, call.result), (True, None))


class GiveTest(unittest.TestCase):
    def make(self, stores):
        story = Story(2, [2, 4])
        lay(story.memory, PAGES, [])
        story.cut(1, 1)
        story.memory.set_up(class_cell(0), 1)
        for store, numbers in zip(story.processors[0].stores, stores):
            store.extend(numbers)
        return story

    def test_with_room(self):
        story = self.make([[], [4, 7]])
        call = Give(story.layout, story.processors[0], 6)
        self.assertEqual((call.done, call.holding(story.memory)), (False, ([6], [])))
        step(call, story.memory)
        self.assertEqual((call.done, call.holding(story.memory)), (True, NOTHING))
        self.assertEqual((story.processors[0].stores, story.processors[0].held), ([[], [4, 7, 6]], []))
        self.assertEqual((story.memory.told, story.free_objects(1)), ([("read", ("class", 1), 2)], []))

    def test_the_room_is_asked_after_the_size_is_known(self):
        story = self.make([[1, 1, 1], []])
        call = Give(story.layout, story.processors[0], 5)
        self.assertEqual((play(call, story.memory), story.processors[0].stores), (1, [[1, 1, 1], [5]]))

    def test_without_room(self):
        story = self.make([[], [4, 7, 5]])
        lay(story.memory, free_cell(1), [9], 3)
        call = Give(story.layout, story.processors[0], 6)
        seen = []
        while not call.done:
            step(call, story.memory)
            seen.append((call.done, call.holding(story.memory), story.free_objects(1)))
        waiting = (False, ([6], []), [9])
        self.assertEqual(seen, [waiting, waiting, waiting, (True, NOTHING, [6, 9])])
        self.assertEqual(story.processors[0].stores, [[], [4, 7, 5]])
        self.assertEqual(story.memory.told, [
            ("read", ("class", 1), 2), ("read", free_cell(1), (10, 3)), ("write", below(6), 10),
            ("swap", free_cell(1), (10, 3), (7, 4), True)])

    def test_a_swap_that_fails_begins_anew(self):
        story = self.make([[1, 1, 1], []])
        call = Give(story.layout, story.processors[0], 0)
        for _ in range(3):
            step(call, story.memory)
        lay(story.memory, FREE, [1], 9)
        step(call, story.memory)
        self.assertEqual((call.done, call.holding(story.memory)), (False, ([0], [])))
        self.assertEqual((play(call, story.memory), story.free_objects()), (3, [0, 1]))

    def test_the_object_belongs_to_the_call_from_the_beginning(self):
        story = Story(2, [2])
        story.cut(0, 0)
        lay(story.memory, PAGES, [1])
        processor = story.processors[0]
        processor.held.extend([1, 0])
        story.calls.append(Give(story.layout, processor, 1))
        self.assertEqual((processor.held, story.places()), ([0], story.wanted()))
        play(story.calls[0], story.memory)
        self.assertEqual((processor.held, processor.stores), ([0], [[1]]))

    def test_other_objects_stay_held(self):
        story = self.make([[], []])
        story.processors[0].held.extend([4, 5])
        play(Give(story.layout, story.processors[0], 6), story.memory)
        self.assertEqual(story.processors[0].held, [4, 5])

    def test_holding_makes_no_access_and_shares_nothing(self):
        story = self.make([[], []])
        call = Give(story.layout, story.processors[0], 6)
        for row in call.holding(story.memory):
            row.append(99)
        self.assertEqual((call.holding(story.memory), story.memory.accesses), (([6], []), 0))


class FlushTest(unittest.TestCase):
    def test_an_empty_store(self):
        story = Story(2, [2])
        call = Flush(story.processors[0], 0)
        self.assertEqual((call.done, call.holding(story.memory), story.memory.told), (True, NOTHING, []))

    def test_a_full_store(self):
        story = Story(2, [2, 4])
        processor = story.processors[0]
        lay(story.memory, PAGES, [0])
        story.cut(1, 1)
        lay(story.memory, free_cell(1), [7])
        processor.stores[1].extend([5, 6, 4])
        call = Flush(processor, 1)
        story.calls.append(call)
        self.assertEqual((call.done, call.holding(story.memory)), (False, ([5, 6, 4], [])))
        self.assertEqual((processor.stores, story.memory.accesses), ([[], []], 0))
        seen = record(self, call, story, lambda: call.holding(story.memory)[0], lambda: story.free_objects(1))
        three, two, one = ([5, 6, 4], [7]), ([5, 6], [4, 7]), ([5], [6, 4, 7])
        self.assertEqual(seen, [three, three, two, two, two, one, one, one, ([], [5, 6, 4, 7])])
        self.assertEqual((call.holding(story.memory), story.free_objects(0)), (NOTHING, []))

    def test_one_object(self):
        story = Story(0, [2])
        story.processors[0].stores[0].append(0)
        call = Flush(story.processors[0], 0)
        self.assertEqual((play(call, story.memory), story.free_objects()), (3, [0]))
        self.assertEqual(story.memory.told, [
            ("read", FREE, 0), ("write", below(0), 0), ("swap", FREE, 0, (1, 1), True)])

    def test_other_sizes_stay(self):
        story = Story(2, [2, 4])
        processor = story.processors[0]
        processor.stores[0].append(0)
        processor.stores[1].append(4)
        play(Flush(processor, 0), story.memory)
        self.assertEqual((processor.stores, story.free_objects(0), story.free_objects(1)), ([[], [4]], [0], []))

    def test_a_swap_that_fails_begins_anew(self):
        story = Story(0, [4])
        story.processors[0].stores[0].extend([2, 3])
        call = Flush(story.processors[0], 0)
        for _ in range(2):
            step(call, story.memory)
        play(Push(FREE, 0), story.memory)
        step(call, story.memory)
        self.assertEqual((call.holding(story.memory), story.free_objects()), (([2, 3], []), [0]))
        self.assertEqual((play(call, story.memory), story.free_objects()), (6, [2, 3, 0]))

    def test_more_than_the_store_holds_raises_no_error(self):
        story = Story(0, [8])
        story.processors[0].stores[0].extend([1, 2, 3, 4, 5])
        play(Flush(story.processors[0], 0), story.memory)
        self.assertEqual(story.free_objects(), [1, 2, 3, 4, 5])

    def test_holding_makes_no_access_and_shares_nothing(self):
        story = Story(0, [2])
        story.processors[0].stores[0].extend([1, 0])
        call = Flush(story.processors[0], 0)
        for row in call.holding(story.memory):
            row.append(99)
        self.assertEqual((call.holding(story.memory), story.memory.accesses), (([1, 0], []), 0))


class InterfaceTest(unittest.TestCase):
    def test_all_is_defined_in_its_file(self):
        for made in (Allocate, Give, Flush, class_cell):
            self.assertEqual(made.__module__, allocating_file.__name__)

    def test_the_methods_stand_in_the_classes_themselves(self):
        for made in (Allocate, Give, Flush):
            for name in ("step", "holding"):
                self.assertIn(name, vars(made))

    def test_arguments_go_by_their_names(self):
        story = Story(1, [4])
        processor = story.processors[0]
        call = Allocate(layout=story.layout, processor=processor, size=0)
        while not call.done:
            call.step(memory=story.memory)
        call = Give(layout=story.layout, processor=processor, number=0)
        self.assertEqual(call.holding(memory=story.memory), ([0], []))
        play(call, story.memory)
        call = Flush(processor=processor, size=0)
        self.assertEqual(call.holding(memory=story.memory), ([3, 2, 1], []))
        play(call, story.memory)
        self.assertEqual(items_of(story.memory, FREE), [3, 2, 1, 0])
        self.assertEqual(class_cell(page=3), ("class", 3))


if __name__ == "__main__":
    unittest.main()

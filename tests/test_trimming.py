import unittest

from playing import Story, lay, play, step
from slabwarren import trimming as trimming_file
from slabwarren.allocating import class_cell
from slabwarren.stacks import PAGES, Pop, Push, free_cell
from slabwarren.trimming import Trim

NOTHING = ([], [])


def story_of(sizes, size, free, held=(), pages=4):
    """Return a story in which the pages of the free and the held objects are cut, and the others are free."""
    story = Story(pages, sizes)
    cut = {story.layout.page_of(number) for number in [*free, *held]}
    for page in cut:
        story.cut(page, size)
    lay(story.memory, PAGES, [page for page in range(pages) if page not in cut])
    lay(story.memory, free_cell(size), list(free))
    story.processors[0].held.extend(held)
    return story


def holding_of(call, story):
    numbers, pages = call.holding(story.memory)
    return sorted(numbers), pages


class TrimTest(unittest.TestCase):
    def trim(self, story, size):
        """Play a Trim; return what it holds, the free pages and the free objects after each step."""
        call = Trim(story.layout, size)
        story.calls.append(call)
        self.assertEqual((call.done, call.holding(story.memory), story.memory.accesses), (False, NOTHING, 0))
        seen = []
        while not call.done:
            step(call, story.memory)
            self.assertEqual(story.places(), story.wanted())
            seen.append((*holding_of(call, story), story.free_pages(), story.free_objects(size)))
        self.assertEqual(call.holding(story.memory), NOTHING)
        return seen

    def test_nothing(self):
        story = story_of([2], 0, [])
        self.assertEqual(self.trim(story, 0), [([], [], [0, 1, 2, 3], [])])
        self.assertEqual(story.memory.told, [("read", ("free", 0), (0, 0))])

    def test_a_head_that_was_never_changed(self):
        story = Story(2, [2, 2])
        self.assertEqual(self.trim(story, 1), [([], [], [0, 1], [])])

    def test_whole_pages(self):
        story = story_of([2], 0, [5, 1, 0, 4])
        seen = self.trim(story, 0)
        every = ([0, 1, 4, 5], [], [1, 3], [])
        self.assertEqual(seen, [
            ([], [], [1, 3], [5, 1, 0, 4]), every, every, every, every, every,
            ([4, 5], [0], [1, 3], []), ([4, 5], [0], [1, 3], []), ([4, 5], [0], [1, 3], []),
            ([4, 5], [], [0, 1, 3], []),
            ([], [2], [0, 1, 3], []), ([], [2], [0, 1, 3], []), ([], [2], [0, 1, 3], []),
            ([], [], [2, 0, 1, 3], [])])
        self.assertEqual([story.memory.peek(class_cell(page)) for page in range(4)], [0, 0, 0, 0])

    def test_its_accesses_after_taking(self):
        story = story_of([2], 0, [3, 2, 6], [7])
        self.trim(story, 0)
        self.assertEqual(story.memory.told[5:], [
            ("write", ("class", 1), 0), ("read", PAGES, (1, 0)), ("write", ("page below", 1), 1),
            ("swap", PAGES, (1, 0), (2, 1), True),
            ("read", ("free", 0), (0, 1)), ("write", ("object below", 6), 0),
            ("swap", ("free", 0), (0, 1), (7, 2), True)])

    def test_a_part_of_a_page(self):
        story = story_of([4], 0, [6, 4, 7], [5])
        seen = self.trim(story, 0)
        every = ([4, 6, 7], [], [0, 2, 3], [])
        self.assertEqual(seen, [
            ([], [], [0, 2, 3], [6, 4, 7]), every, every, every, every, every, every,
            *[([6, 7], [], [0, 2, 3], [4])] * 3, *[([7], [], [0, 2, 3], [6, 4])] * 3,
            ([], [], [0, 2, 3], [7, 6, 4])])
        self.assertEqual(story.memory.peek(class_cell(1)), 1)

    def test_both(self):
        story = story_of([3, 2], 1, [9, 1, 4, 0, 10, 6], [7, 3])
        seen = self.trim(story, 1)
        self.assertEqual(len(seen), 1 + 1 + 6 + 2 * 4 + 2 * 3)
        self.assertEqual(seen[8], ([4, 6, 9, 10], [0], [], []))
        self.assertEqual(seen[11], ([4, 6, 9, 10], [], [0], []))
        self.assertEqual(seen[12], ([4, 6], [3], [0], []))
        self.assertEqual(seen[15], ([4, 6], [], [3, 0], []))
        self.assertEqual(seen[18], ([6], [], [3, 0], [4]))
        self.assertEqual(seen[21], ([], [], [3, 0], [6, 4]))
        self.assertEqual([story.memory.peek(class_cell(page)) for page in range(4)], [0, 2, 2, 0])

    def test_pages_of_one_object_are_always_whole(self):
        story = story_of([3, 1], 1, [6, 0, 3])
        self.trim(story, 1)
        self.assertEqual((story.free_pages(), story.free_objects(1)), ([2, 1, 0, 3], []))

    def test_as_many_objects_as_the_size_has(self):
        story = story_of([4, 2], 1, [4, 5])
        self.trim(story, 1)
        self.assertEqual(story.free_pages(), [1, 0, 2, 3])

    def test_other_sizes_stay(self):
        story = story_of([2, 2], 0, [1, 0])
        lay(story.memory, PAGES, [1, 3])
        story.cut(2, 1)
        lay(story.memory, free_cell(1), [5, 4])
        self.trim(story, 0)
        self.assertEqual((story.free_objects(1), story.free_pages()), ([5, 4], [0, 1, 3]))

    def test_an_object_in_a_hand_store_keeps_its_page(self):
        story = story_of([2], 0, [0], [1])
        story.processors[0].stores[0].append(story.processors[0].held.pop())
        self.trim(story, 0)
        self.assertEqual((story.free_objects(), story.free_pages()), ([0], [1, 2, 3]))

    def test_what_comes_meanwhile_is_not_taken(self):
        story = story_of([2], 0, [0], [1])
        call = Trim(story.layout, 0)
        for _ in range(2):
            step(call, story.memory)
        play(Push(free_cell(0), story.processors[0].held.pop()), story.memory)
        play(call, story.memory)
        self.assertEqual((story.free_objects(), story.free_pages()), ([0, 1], [1, 2, 3]))

    def test_swaps_that_fail_begin_anew(self):
        story = story_of([2], 0, [0, 1, 2], [3])
        call = Trim(story.layout, 0)
        step(call, story.memory)
        taken = Pop(free_cell(0))
        play(taken, story.memory)
        step(call, story.memory)
        self.assertEqual((call.holding(story.memory), story.free_objects()), (NOTHING, [1, 2]))
        play(Push(free_cell(0), 0), story.memory)
        for _ in range(7):
            step(call, story.memory)
        self.assertEqual(holding_of(call, story), ([2], [0]))
        play(Pop(PAGES), story.memory)
        step(call, story.memory)
        step(call, story.memory)
        self.assertEqual((holding_of(call, story), story.free_pages()), (([2], [0]), [3]))
        play(call, story.memory)
        self.assertEqual((story.free_pages(), story.free_objects()), ([0, 3], [2]))

    def test_holding_makes_no_access_and_shares_nothing(self):
        story = story_of([2], 0, [0, 1, 2], [3])
        call = Trim(story.layout, 0)
        while not call.done:
            before, accesses = [list(row) for row in call.holding(story.memory)], story.memory.accesses
            for row in call.holding(story.memory):
                row.append(99)
            self.assertEqual((list(call.holding(story.memory)), story.memory.accesses), (before, accesses))
            step(call, story.memory)

    def test_a_size_without_objects_raises_no_error(self):
        story = Story(2, [0, 2])
        self.assertEqual(play(Trim(story.layout, 0), story.memory), 1)


class InterfaceTest(unittest.TestCase):
    def test_the_class_is_defined_in_its_file(self):
        self.assertEqual(Trim.__module__, trimming_file.__name__)

    def test_the_methods_stand_in_the_class_itself(self):
        for name in ("step", "holding"):
            self.assertIn(name, vars(Trim))

    def test_arguments_go_by_their_names(self):
        story = Story(1, [2])
        call = Trim(layout=story.layout, size=0)
        self.assertEqual(call.holding(memory=story.memory), NOTHING)
        call.step(memory=story.memory)
        self.assertTrue(call.done)


if __name__ == "__main__":
    unittest.main()

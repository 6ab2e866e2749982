import unittest

from playing import Story, each_weaving, lay, play, step
from slabwarren.allocating import Allocate, Flush, Give
from slabwarren.stacks import PAGES, free_cell
from slabwarren.trimming import Trim


def allocate(story, number, size=0):
    return Allocate(story.layout, story.processors[number], size)


def give(story, number):
    processor = story.processors[number]
    return Give(story.layout, processor, processor.held[0])


def flush(story, number, size=0):
    return Flush(story.processors[number], size)


def trim(story, number, size=0):
    return Trim(story.layout, size)


class WovenCallsTest(unittest.TestCase):
    """Whole calls of two processors, their steps in every order."""

    def weave(self, make, *begin):
        """Begin a call of each processor, play them in every order, and return the different ends."""
        ends = []

        def made():
            story = make()
            story.calls = [call(story, number) for number, call in enumerate(begin)]
            return story

        def look(story):
            self.assertEqual(story.places(), story.wanted())
            for call in story.calls:
                if call.done:
                    self.assertEqual(call.holding(story.memory), ([], []))

        def end(story):
            found = self.end_of(story)
            if found not in ends:
                ends.append(found)

        self.assertGreater(each_weaving(made, look, end), 1)
        return ends

    def end_of(self, story):
        """Return the results of the calls, the free pages and the free objects, each in ascending order."""
        results = [call.result for call in story.calls if isinstance(call, Allocate)]
        return results, sorted(story.free_pages()), sorted(story.free_objects())

    def test_two_allocate_with_a_page_for_each(self):
        ends = self.weave(lambda: Story(3, [2], 2), allocate, allocate)
        self.assertEqual(sorted(ends), [([0, 2], [2], []), ([2, 0], [2], [])])

    def test_two_allocate_that_push(self):
        def with_page(story, number):
            call = allocate(story, number)
            while call.holding(story.memory) == ([], []):
                step(call, story.memory)
            return call

        ends = self.weave(lambda: Story(2, [5], 2), with_page, with_page)
        self.assertEqual(ends, [([0, 5], [], [1, 6])])

    def test_an_allocate_that_pushes_and_another(self):
        ends = self.weave(lambda: Story(1, [5], 2), allocate, allocate)
        self.assertEqual(sorted(ends, key=repr), [
            ([0, 1], [], []), ([0, None], [], [1]), ([1, 0], [], []), ([None, 0], [], [1])])

    def test_two_allocate_at_one_page(self):
        ends = self.weave(lambda: Story(1, [2], 2), allocate, allocate)
        self.assertEqual(sorted(ends, key=repr), [([0, None], [], []), ([None, 0], [], [])])

    def test_two_allocate_at_one_object(self):
        def make():
            story = Story(1, [2], 2)
            lay(story.memory, PAGES, [])
            story.cut(0, 0)
            story.processors[0].held.append(1)
            lay(story.memory, free_cell(0), [0])
            return story

        ends = self.weave(make, allocate, allocate)
        self.assertEqual(sorted(ends, key=repr), [([0, None], [], []), ([None, 0], [], [])])

    def held(self, stores=([], [])):
        """Return a story in which the first processor holds an object of the only page, and the stores have some."""
        story = Story(1, [7], 2)
        lay(story.memory, PAGES, [])
        numbers = story.cut(0, 0)
        story.processors[0].held.append(0)
        for processor, store in zip(story.processors, stores):
            processor.stores[0].extend(store)
        inside = [0, *stores[0], *stores[1]]
        lay(story.memory, free_cell(0), [number for number in numbers if number not in inside])
        return story

    def test_give_and_allocate(self):
        ends = self.weave(lambda: self.held(([1, 2, 3], [])), give, allocate)
        self.assertIn(([0], [], [4, 5, 6]), ends)
        self.assertIn(([4], [], [0, 5, 6]), ends)

    def test_flush_and_allocate(self):
        ends = self.weave(lambda: self.held(([1, 2], [])), lambda story, number: flush(story, 0), allocate)
        self.assertIn(([3], [], [1, 2, 4, 5, 6]), ends)
        self.assertIn(([1], [], [2, 3, 4, 5, 6]), ends)

    def test_give_and_flush(self):
        ends = self.weave(lambda: self.held(([1, 2, 3], [4, 5])), give, flush)
        self.assertEqual(ends, [([], [], [0, 4, 5, 6])])

    def whole(self):
        """Return a story in which all objects of the first page are free, and the other page is as well."""
        story = Story(2, [2], 2)
        lay(story.memory, PAGES, [1])
        lay(story.memory, free_cell(0), story.cut(0, 0))
        return story

    def test_trim_and_allocate(self):
        ends = self.weave(self.whole, trim, allocate)
        self.assertIn(([0], [1], [1]), ends)
        self.assertIn(([2], [0], []), ends)
        self.assertIn(([0], [1], []), ends)

    def test_two_trim(self):
        self.assertEqual(self.weave(self.whole, trim, trim), [([], [0, 1], [])])

    def test_trim_and_give(self):
        def make():
            story = Story(3, [2], 2)
            lay(story.memory, PAGES, [])
            for page in range(3):
                story.cut(page, 0)
            lay(story.memory, free_cell(0), [1])
            story.processors[0].held.append(5)
            story.processors[1].held.append(0)
            story.processors[1].stores[0].extend([2, 3, 4])
            return story

        # The object may come too late for its page to be given back.
        self.assertEqual(sorted(self.weave(make, trim, give)), [([], [], [0, 1]), ([], [0], [])])


class ThreeProcessorsTest(unittest.TestCase):
    def rounds(self, order):
        """Let three processors allocate, give, flush and trim, their steps in the order of the numbers."""
        story = Story(3, [5, 1], 3)
        done = [0, 0, 0]
        story.calls = [allocate(story, number) for number in range(3)]
        for turn in order:
            call = story.calls[turn]
            if call.done:
                done[turn] += 1
                story.calls[turn] = self.next_call(story, turn, done[turn])
            else:
                step(call, story.memory)
            self.assertEqual(story.places(), story.wanted())
        return story

    def next_call(self, story, number, many):
        if many % 7 == 4 and story.processors[number].held:
            return give(story, number)
        if many % 7 == 5:
            return flush(story, number)
        if many % 7 == 6:
            return trim(story, number, many % 2)
        return allocate(story, number, many % 3 // 2)

    def give_back(self, story):
        for call in story.calls:
            play(call, story.memory)
        for number, processor in enumerate(story.processors):
            while processor.held:
                play(give(story, number), story.memory)
            for size in range(2):
                play(flush(story, number, size), story.memory)
        for size in range(2):
            play(trim(story, 0, size), story.memory)

    def test_all_pages_are_free_when_everything_was_given_back(self):
        for seed in range(40):
            order, state = [], seed + 1
            for _ in range(300):
                state = state * 48271 % 2147483647
                order.append(state // 7 % 3)
            story = self.rounds(order)
            self.give_back(story)
            self.assertEqual(sorted(story.free_pages()), [0, 1, 2])
            self.assertEqual((story.free_objects(0), story.free_objects(1)), ([], []))


if __name__ == "__main__":
    unittest.main()

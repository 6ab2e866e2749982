import unittest

from playing import lay, run
from slabwarren import ledger as ledger_file
from slabwarren.allocating import class_cell
from slabwarren.ledger import is_sound, places_of_objects, places_of_pages
from slabwarren.reading import slot_cell
from slabwarren.stacks import PAGES, Push, free_cell
from slabwarren.world import World


def rich():
    """Return a world that has objects in all places, with calls under way.

    The pages 0, 1 and 2 are cut for the size 0, the pages 3 and 4 for the size 1, and the pages 5 and 6 are not cut.
    """
    world = World(7, [6, 2], 3, 4)
    for page, value in ((0, 1), (1, 1), (2, 1), (3, 2), (4, 2)):
        world.memory.set_up(class_cell(page), value)
    lay(world.memory, PAGES, [6, 5], 5)
    lay(world.memory, free_cell(0), [16, 2, 9], 8)
    lay(world.memory, free_cell(1), [24], 3)
    world.memory.set_up(slot_cell(1), 1)
    world.memory.set_up(slot_cell(3), 16)
    first, second, third = world.processors
    first.stores[0].extend([7, 1])
    first.stores[1].extend([19])
    first.held.extend([17, 3])
    first.unlinked.extend([11, 5])
    first.retired.extend([(12, 4), (6, 2)])
    second.stores[0].extend([13, 14, 10])
    second.held.extend([4])
    third.held.extend([18])
    third.unlinked.extend([8])
    third.retired.extend([(25, 0)])
    return world


class ObjectsTest(unittest.TestCase):
    start = [(16, "free"), (2, "free"), (9, "free"), (24, "free"), (0, "published"), (15, "published")]
    first = [(7, "store"), (1, "store"), (19, "store"), (17, "held"), (3, "held"),
             (11, "unlinked"), (5, "unlinked"), (12, "retired"), (6, "retired")]
    second = [(13, "store"), (14, "store"), (10, "store"), (4, "held")]
    third = [(18, "held"), (8, "unlinked"), (25, "retired")]

    def test_nothing(self):
        self.assertEqual(places_of_objects(World(3, [2, 2], 2, 2)), [])

    def test_the_order_and_the_words(self):
        world = rich()
        self.assertEqual(places_of_objects(world), self.start + self.first + self.second + self.third)

    def test_what_calls_have_in_their_hands_stands_behind_their_processor(self):
        world = rich()
        world.do(("call", 1, "flush", 0))
        world.do(("call", 0, "give", 1))
        world.do(("call", 2, "retire", 0))
        first = [place for place in self.first if place != (3, "held")]
        third = [(18, "held"), (25, "retired")]
        self.assertEqual(places_of_objects(world), [
            *self.start, *first, (3, "call"), (4, "held"), (13, "call"), (14, "call"), (10, "call"),
            *third, (8, "call")])

    def test_it_makes_no_access_and_shares_nothing(self):
        world = rich()
        world.do(("call", 1, "flush", 0))
        before = places_of_objects(world)
        places_of_objects(world).clear()
        places_of_pages(world).clear()
        self.assertEqual((places_of_objects(world), world.memory.accesses, world.moment), (before, 0, 1))

    def test_each_step_of_a_cut(self):
        world = World(2, [5], 1, 0)
        world.do(("call", 0, "allocate", 0))
        store = [(4, "store"), (3, "store"), (2, "store")]
        hands = [(0, "call"), (1, "call")]
        for places in ([], [], [], [], store + hands, store + hands, store + hands,
                       [(1, "free"), *store, (0, "held")]):
            world.do(("step", 0))
            self.assertEqual(places_of_objects(world), places)

    def test_each_step_of_a_publishing(self):
        world = World(1, [2], 2, 1)
        run(world, 0, "allocate", 0)
        run(world, 0, "allocate", 0)
        for number in range(2):
            world.do(("call", 0, "publish", 0, 0))
            for _ in range(3):
                self.assertIn((number, "call"), places_of_objects(world))
                world.do(("step", 0))
            self.assertIn((number, "published"), places_of_objects(world))
        self.assertEqual(places_of_objects(world), [(1, "published"), (0, "unlinked")])


class PagesTest(unittest.TestCase):
    def test_free_pages_topmost_first(self):
        self.assertEqual(places_of_pages(World(3, [2], 1, 0)), [(0, "free"), (1, "free"), (2, "free")])
        self.assertEqual(places_of_pages(rich()), [(6, "free"), (5, "free")])
        self.assertEqual(places_of_pages(World(0, [2], 1, 0)), [])

    def test_calls_come_behind_processor_by_processor(self):
        world = World(4, [2], 2, 0)
        for index in (1, 0):
            world.do(("call", index, "allocate", 0))
            for _ in range(4):
                world.do(("step", index))
        self.assertEqual(places_of_pages(world), [(2, "free"), (3, "free"), (1, "call"), (0, "call")])
        world.do(("step", 1))
        self.assertEqual(places_of_pages(world), [(2, "free"), (3, "free"), (1, "call")])
        self.assertEqual(places_of_objects(world), [(1, "store"), (0, "held")])

    def test_a_page_in_the_hands_of_a_trim(self):
        world = World(2, [2], 1, 0)
        run(world, 0, "allocate", 0)
        run(world, 0, "give", 0)
        run(world, 0, "flush", 0)
        world.do(("call", 0, "trim", 0))
        free, objects = [(1, "free")], [(0, "call"), (1, "call")]
        seen = []
        for _ in range(8):
            world.do(("step", 0))
            seen.append((places_of_pages(world), sorted(places_of_objects(world))))
        page = (free + [(0, "call")], [])
        self.assertEqual(seen, [
            (free, [(0, "free"), (1, "free")]), (free, objects), (free, objects), (free, objects),
            page, page, page, ([(0, "free"), (1, "free")], [])])


class SoundTest(unittest.TestCase):
    def check(self, change, sound=False):
        """Check what is_sound tells of the rich world behind a change by hand."""
        world = rich()
        self.assertIs(is_sound(world), True)
        change(world)
        self.assertIs(is_sound(world), sound)
        self.assertEqual(world.memory.accesses, 0)

    def test_worlds_as_they_begin(self):
        for pages in range(3):
            self.assertIs(is_sound(World(pages, [2, 1], 2, 2)), True)

    def test_the_order_does_not_matter(self):
        def change(world):
            lay(world.memory, PAGES, [5, 6])
            lay(world.memory, free_cell(0), [9, 16, 2])
            world.processors[0].held.reverse()

        self.check(change, True)

    def test_an_object_in_another_place(self):
        self.check(lambda world: world.processors[1].held.append(world.processors[0].retired.pop()[0]), True)
        self.check(lambda world: world.processors[2].stores[1].append(world.processors[0].held.pop()), True)

    def test_an_object_in_no_place(self):
        self.check(lambda world: lay(world.memory, free_cell(0), [16, 2]))
        self.check(lambda world: lay(world.memory, free_cell(1), []))
        self.check(lambda world: world.memory.set_up(slot_cell(3), 0))
        for processor, name in ((0, "held"), (0, "unlinked"), (0, "retired"), (1, "held"), (2, "held"), (2, "unlinked")):
            self.check(lambda world: getattr(world.processors[processor], name).pop())
        self.check(lambda world: world.processors[0].stores[1].clear())

    def test_an_object_in_two_places(self):
        self.check(lambda world: lay(world.memory, free_cell(0), [16, 2, 17, 9]))
        self.check(lambda world: world.memory.set_up(slot_cell(0), 18))
        self.check(lambda world: world.memory.set_up(slot_cell(0), 1))
        self.check(lambda world: world.processors[0].held.append(16))
        self.check(lambda world: world.processors[0].held.append(17))
        self.check(lambda world: world.processors[1].held.append(17))
        self.check(lambda world: world.processors[1].unlinked.append(12))
        self.check(lambda world: world.processors[1].retired.append((8, 3)))
        self.check(lambda world: world.processors[1].stores[1].append(19))

    def test_one_in_no_place_and_another_in_two(self):
        def change(world):
            world.processors[0].held[0] = 3

        self.check(change)

    def test_an_object_that_is_pushed_twice(self):
        for number in (16, 2, 9):
            world = rich()
            push = Push(free_cell(0), number)
            while not push.done:
                push.step(world.memory)
            self.assertIs(is_sound(world), False)

    def test_an_object_that_is_also_in_the_hands_of_a_call(self):
        world = rich()
        world.do(("call", 0, "give", 0))
        self.assertIs(is_sound(world), True)
        world.processors[2].held.append(17)
        self.assertIs(is_sound(world), False)

    def test_an_object_in_the_hands_of_a_call_that_is_gone(self):
        world = rich()
        world.do(("call", 0, "give", 0))
        world.processors[0].running = None
        self.assertIs(is_sound(world), False)

    def test_a_page_in_no_place(self):
        self.check(lambda world: lay(world.memory, PAGES, [6]))
        self.check(lambda world: lay(world.memory, PAGES, []))

    def test_a_page_in_two_places(self):
        world = World(3, [2], 1, 0)
        world.do(("call", 0, "allocate", 0))
        for _ in range(4):
            world.do(("step", 0))
        self.assertIs(is_sound(world), True)
        lay(world.memory, PAGES, [1, 0, 2])
        self.assertIs(is_sound(world), False)

    def test_a_page_that_is_pushed_twice(self):
        world = rich()
        push = Push(PAGES, 5)
        while not push.done:
            push.step(world.memory)
        self.assertIs(is_sound(world), False)

    def test_a_class_cell_that_was_changed(self):
        self.check(lambda world: world.memory.set_up(class_cell(5), 1))
        self.check(lambda world: world.memory.set_up(class_cell(4), 0))
        self.check(lambda world: world.memory.set_up(class_cell(4), 1))
        self.check(lambda world: world.memory.set_up(class_cell(0), 2))

    def test_what_does_not_exist(self):
        self.check(lambda world: world.processors[0].held.append(30))
        self.check(lambda world: world.processors[0].held.append(20))
        self.check(lambda world: lay(world.memory, PAGES, [6, 5, 7]))
        self.check(lambda world: lay(world.memory, PAGES, [6, 0, 5]))

    def test_the_parts_are_really_in_place(self):
        self.assertEqual(sorted(number for number, _ in places_of_objects(rich())),
                         [*range(20), 24, 25])


class InterfaceTest(unittest.TestCase):
    def test_all_is_defined_in_its_file(self):
        for made in (places_of_objects, places_of_pages, is_sound):
            self.assertEqual(made.__module__, ledger_file.__name__)

    def test_arguments_go_by_their_names(self):
        world = World(1, [2], 1, 0)
        self.assertEqual((places_of_objects(world=world), places_of_pages(world=world), is_sound(world=world)),
                         ([], [(0, "free")], True))


if __name__ == "__main__":
    unittest.main()

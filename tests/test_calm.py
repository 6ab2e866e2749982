import unittest

from playing import ToldWorld, draw_event, draws, lay, run
from slabwarren import calm as calm_file
from slabwarren.calm import finish_calls, give_everything_back
from slabwarren.ledger import is_sound, places_of_objects, places_of_pages
from slabwarren.reading import slot_cell
from slabwarren.stacks import PAGES
from slabwarren.world import World


def drawn_world(seed, many, *given):
    """Return a world behind so many drawn events."""
    world, numbers = ToldWorld(*given), draws(seed)
    for _ in range(many):
        world.do(draw_event(world, numbers))
    return world


class FinishTest(unittest.TestCase):
    def test_nothing_is_under_way(self):
        world = ToldWorld(2, [2], 3, 1)
        self.assertIsNone(finish_calls(world))
        self.assertEqual((world.told, world.moment), ([], 0))

    def test_processor_by_processor(self):
        world = ToldWorld(3, [5], 3, 1)
        for event in (("call", 2, "allocate", 0), ("call", 0, "allocate", 0), ("step", 2), ("step", 0)):
            world.do(event)
        world.told.clear()
        finish_calls(world)
        self.assertEqual(world.told, [("step", 0)] * 7 + [("step", 2)] * 7)
        self.assertEqual([processor.held for processor in world.processors], [[0], [], [5]])
        self.assertEqual([processor.running for processor in world.processors], [None] * 3)
        self.assertEqual(world.moment, 18)

    def test_a_look_that_was_under_way_is_seen(self):
        world = World(1, [2], 1, 1)
        run(world, 0, "enter")
        world.do(("call", 0, "look", 0))
        finish_calls(world)
        self.assertEqual(world.seen, [(5, 0, 0, None)])

    def test_it_begins_no_call(self):
        for seed in range(10):
            world = drawn_world(seed, 200, 3, [4, 2], 3, 2)
            running = [processor.number for processor in world.processors if processor.running is not None]
            world.told.clear()
            finish_calls(world)
            turns = [event[1] for event in world.told]
            self.assertEqual([event[0] for event in world.told], ["step"] * len(turns))
            self.assertEqual((sorted(set(turns)), turns), (running, sorted(turns)))
            self.assertTrue(is_sound(world))


class GiveBackTest(unittest.TestCase):
    def calls_of(self, world):
        """Give everything back, and return the calls that were begun; each of them goes to its end before the next."""
        world.told.clear()
        many = give_everything_back(world)
        self.assertEqual(many, world.layout.pages)
        calls = []
        for event in world.told:
            if event[0] == "call":
                calls.append(event[1:])
            else:
                self.assertEqual(event, ("step", calls[-1][0]))
        return calls

    def test_nothing_was_done(self):
        world = ToldWorld(3, [2, 1], 2, 2)
        self.assertEqual(self.calls_of(world), [
            (0, "unpublish", 0), (0, "unpublish", 1), (0, "leave"), (1, "leave"),
            (0, "sweep"), (0, "flush", 0), (0, "flush", 1), (1, "sweep"), (1, "flush", 0), (1, "flush", 1),
            (0, "trim", 0), (0, "trim", 1)])
        self.assertEqual(world.moment, len(world.told))
        self.assertEqual(world.memory.accesses, 2 * 2 + 2 * 2 + 2)

    def test_the_order_of_its_events(self):
        world = ToldWorld(4, [4, 2], 2, 2)
        for number in (0, 1):
            for size in (0, 0, 0, 1):
                run(world, number, "allocate", size)
        run(world, 0, "publish", 0, 0)
        run(world, 1, "publish", 1, 1)
        run(world, 1, "publish", 1, 1)
        run(world, 1, "enter")
        run(world, 1, "retire", 0)
        self.assertEqual([len(processor.held) for processor in world.processors], [3, 2])
        self.assertEqual(self.calls_of(world), [
            (0, "unpublish", 0), (0, "unpublish", 1), (0, "leave"), (1, "leave"),
            (0, "give", 0), (0, "give", 0), (0, "give", 0), (0, "retire", 0), (0, "retire", 0),
            (0, "sweep"), (0, "flush", 0), (0, "flush", 1),
            (1, "give", 0), (1, "give", 0), (1, "sweep"), (1, "flush", 0), (1, "flush", 1),
            (0, "trim", 0), (0, "trim", 1)])

    def test_unlinked_objects_of_each_processor(self):
        world = ToldWorld(2, [2], 2, 1)
        run(world, 1, "allocate", 0)
        run(world, 1, "publish", 0, 0)
        run(world, 1, "unpublish", 0)
        self.assertEqual(self.calls_of(world)[3:], [
            (0, "sweep"), (0, "flush", 0), (1, "retire", 0), (1, "sweep"), (1, "flush", 0), (0, "trim", 0)])

    def test_calls_under_way_are_finished_first(self):
        world = ToldWorld(2, [5], 2, 1)
        world.do(("call", 1, "allocate", 0))
        world.do(("call", 0, "enter"))
        world.told.clear()
        self.assertEqual(give_everything_back(world), 2)
        self.assertEqual(world.told[:10], [("step", 0)] * 2 + [("step", 1)] * 8)
        self.assertEqual(world.told[10], ("call", 0, "unpublish", 0))
        self.assertEqual([event for event in world.told[10:] if event[0] == "call"][1:4], [
            ("call", 0, "leave"), ("call", 1, "leave"), ("call", 0, "sweep")])

    def test_all_in_the_last_state(self):
        world = drawn_world(3, 300, 3, [4, 2], 3, 2)
        give_everything_back(world)
        self.assertEqual((places_of_objects(world), sorted(places_of_pages(world))),
                         ([], [(0, "free"), (1, "free"), (2, "free")]))
        for processor in world.processors:
            self.assertEqual((processor.running, processor.is_reading, processor.objects()), (None, False, []))
        self.assertEqual([world.memory.peek(slot_cell(slot)) for slot in range(2)], [0, 0])

    def test_a_second_time(self):
        world = drawn_world(4, 300, 3, [4, 2], 2, 1)
        self.assertEqual((give_everything_back(world), give_everything_back(world)), (3, 3))

    def test_no_pages(self):
        self.assertEqual(give_everything_back(World(0, [2], 1, 1)), 0)

    def test_the_number_is_that_of_the_free_pages(self):
        world = World(3, [2], 1, 1)
        lay(world.memory, PAGES, [2, 0])
        self.assertEqual(give_everything_back(world), 2)

    def test_a_world_without_processors_raises_no_error(self):
        self.assertEqual(give_everything_back(World(3, [2], 0, 1)), 3)


class InterfaceTest(unittest.TestCase):
    def test_all_is_defined_in_its_file(self):
        for made in (finish_calls, give_everything_back):
            self.assertEqual(made.__module__, calm_file.__name__)

    def test_arguments_go_by_their_names(self):
        world = World(2, [2], 1, 0)
        self.assertEqual((finish_calls(world=world), give_everything_back(world=world)), (None, 2))


if __name__ == "__main__":
    unittest.main()

import unittest
from collections import Counter

from playing import WatchedWorld, draw_event, draws, each_path, run
from slabwarren.calm import give_everything_back
from slabwarren.ledger import is_sound
from slabwarren.stacks import PAGES, items_of


class WovenScriptsTest(unittest.TestCase):
    """Several calls of each processor, woven in every order: fact RE3 and that nothing is given out too early."""

    def weave(self, make, *scripts):
        """Let each processor do the calls of its script, in every order, and return the different things seen."""
        found = []

        def play_one(choose):
            world = make()
            left = [list(script) for script in scripts]
            while alive := [number for number in range(len(scripts)) if left[number] or world.processors[number].running]:
                self.turn(world, alive[choose(len(alive))], left)
            self.assertIs(is_sound(world), True)
            results = [result for _, _, _, result in world.seen]
            if results not in found:
                found.append(results)
            self.assertEqual(give_everything_back(world), world.layout.pages)

        self.assertGreater(each_path(play_one), 100)
        return found

    def turn(self, world, number, left):
        """Let a processor begin its next call if it has none, and do one step."""
        if world.processors[number].running is None:
            world.do(("call", number, *left[number].pop(0)))
        world.do(("step", number))

    def world(self, reads):
        """Return a world in which the first processor has published object 0 with the content 7."""
        world = WatchedWorld(self, 1, [2], 2, 1)
        run(world, 0, "allocate", 0)
        run(world, 0, "publish", 0, 0)
        self.assertEqual(run(world, 1, "enter") if reads else 2, 2)
        return world

    # Its Allocate takes object 0 if the Sweep has given it back, and the other one otherwise.
    replace = (("unpublish", 0), ("retire", 0), ("sweep",), ("allocate", 0), ("publish", 0, 0))

    def test_a_reader_beside_one_that_takes_the_object_anew(self):
        found = self.weave(lambda: self.world(False), self.replace, (("enter",), ("look", 0), ("leave",)))
        self.assertIn([(0, 7)], found)
        self.assertIn([None], found)
        # Both the object that was taken anew and the other one are seen, each with a new content.
        self.assertTrue(any(row[0] is not None and row[0][0] == 0 and row[0][1] > 7 for row in found), found)
        self.assertTrue(any(row[0] is not None and row[0][0] == 1 for row in found), found)

    def test_a_reader_that_looks_twice(self):
        found = self.weave(lambda: self.world(True), self.replace, (("look", 0), ("look", 0), ("leave",)))
        self.assertIn([(0, 7), (0, 7)], found)
        self.assertIn([(0, 7), None], found)
        for row in found:
            for result in row:
                # The object may still be read, so it is not given out anew.
                self.assertTrue(result in ((0, 7), None) or result[0] == 1, found)

    def test_two_that_publish_beside_each_other(self):
        def make():
            world = WatchedWorld(self, 1, [2], 2, 1)
            run(world, 0, "allocate", 0)
            run(world, 0, "flush", 0)
            run(world, 1, "allocate", 0)
            return world

        again = (("publish", 0, 0), ("retire", 0), ("sweep",))
        self.assertEqual(self.weave(make, again, again), [[]])


class DrawnTest(unittest.TestCase):
    """Facts RE3, LE2 and CA2 in worlds whose events are drawn."""

    WORLDS = ((2, [4], 2, 1), (3, [4, 2], 3, 2), (5, [2, 5, 1], 4, 3), (1, [6], 3, 2), (4, [1], 2, 2), (6, [9, 3], 1, 1),
              (3, [3, 3], 2, 0))

    def test_all_facts(self):
        done = Counter()
        for given in self.WORLDS:
            for seed in range(8):
                with self.subTest(given=given, seed=seed):
                    self.play(given, seed, done)
        for word in ("allocate", "give", "flush", "trim", "publish", "unpublish", "retire", "sweep", "enter", "leave",
                     "look", "an object that was seen", "an object that stayed retired"):
            self.assertGreater(done[word], 50, word)

    def play(self, given, seed, done):
        world, numbers = WatchedWorld(self, *given), draws(seed)
        for _ in range(700):
            words = [processor.word for processor in world.processors]
            world.do(draw_event(world, numbers))
            self.assertIs(is_sound(world), True)
            for processor, before in zip(world.processors, words):
                if before != "" and processor.word == "":
                    done[before] += 1
                    done["an object that stayed retired"] += before == "sweep" and processor.retired != []
        done["an object that was seen"] += len([1 for *_, result in world.seen if result is not None])
        self.assertEqual(give_everything_back(world), given[0])
        self.assertEqual(sorted(items_of(world.memory, PAGES)), list(range(given[0])))
        self.assertIs(is_sound(world), True)
        self.take_all(world, seed % len(given[1]))
        self.assertEqual(give_everything_back(world), given[0])

    def take_all(self, world, size):
        """Take as many objects of a size as there are in all pages; there is not one more."""
        last = world.processors[-1]
        many = world.layout.pages * world.layout.sizes[size]
        for _ in range(many + 1):
            run(world, last.number, "allocate", size)
        wanted = [number for page in range(world.layout.pages) for number in world.layout.objects(page, size)]
        self.assertEqual((len(wanted), sorted(last.held)), (many, wanted))


if __name__ == "__main__":
    unittest.main()

import doctest
import unittest

MEMORY = """
>>> from slabwarren.memory import Memory
>>> memory = Memory()
>>> memory.swap(("a",), 0, 5), memory.swap(("a",), 0, 6), memory.read(("a",)), memory.accesses
(True, False, 5, 3)
"""

LAYOUT = """
>>> from slabwarren.layout import Layout
>>> layout = Layout(3, [4, 1])
>>> layout.objects(2, 0), layout.objects(2, 1), layout.page_of(9)
([8, 9, 10, 11], [8], 2)
"""

STACKS = """
>>> from slabwarren.memory import Memory
>>> from slabwarren.stacks import Pop, Push, free_cell, items_of
>>> memory = Memory()
>>> push = Push(free_cell(0), 7)
>>> for k in range(3):
...     push.step(memory)
>>> push.done, items_of(memory, free_cell(0)), memory.peek(free_cell(0))
(True, [7], (8, 1))
"""

WORLD = """
>>> from slabwarren.world import World
>>> world = World(2, [2], 1, 0)
>>> for event in [("call", 0, "allocate", 0)] + [("step", 0)] * 5:
...     world.do(event)
>>> world.processors[0].held, world.processors[0].stores, world.memory.accesses
([0], [[1]], 5)
"""


class ExampleTest(unittest.TestCase):
    """The examples of the document's interface, word for word."""

    def check(self, text):
        example = doctest.DocTestParser().get_doctest(text, {}, self.id(), None, 0)
        results = doctest.DocTestRunner(verbose=False).run(example)
        self.assertGreater(results.attempted, 0)
        self.assertEqual(results.failed, 0)

    def test_memory(self):
        self.check(MEMORY)

    def test_layout(self):
        self.check(LAYOUT)

    def test_stacks(self):
        self.check(STACKS)

    def test_world(self):
        self.check(WORLD)


if __name__ == "__main__":
    unittest.main()

import unittest

from slabwarren import memory as memory_file
from slabwarren.memory import Memory

A, B = ("a",), ("b",)


class CellTest(unittest.TestCase):
    def test_a_cell_that_was_never_changed_is_0(self):
        memory = Memory()
        self.assertEqual((memory.read(A), memory.peek(A)), (0, 0))

    def test_reading_does_not_change_a_cell(self):
        memory = Memory()
        memory.write(A, 4)
        self.assertEqual([memory.read(A), memory.peek(A), memory.read(A)], [4, 4, 4])

    def test_the_last_change_counts(self):
        memory = Memory()
        memory.write(A, 4)
        memory.set_up(A, 5)
        self.assertEqual(memory.read(A), 5)
        memory.write(A, 0)
        self.assertEqual(memory.peek(A), 0)

    def test_what_is_set_up_is_read(self):
        memory = Memory()
        memory.set_up(A, 7)
        self.assertEqual((memory.peek(A), memory.read(A)), (7, 7))

    def test_a_value_may_be_a_pair(self):
        memory = Memory()
        memory.write(A, (8, 1))
        self.assertEqual(memory.read(A), (8, 1))

    def test_changing_returns_none(self):
        memory = Memory()
        self.assertIsNone(memory.write(A, 1))
        self.assertIsNone(memory.set_up(A, 2))

    def test_other_cells_keep_their_values(self):
        memory = Memory()
        memory.write(A, 1)
        memory.set_up(B, 2)
        self.assertTrue(memory.swap(B, 2, 3))
        self.assertEqual((memory.peek(A), memory.peek(B), memory.peek(("c",))), (1, 3, 0))

    def test_names_that_differ_only_in_length_are_different_cells(self):
        memory = Memory()
        names = [(), ("a",), ("a", 1), ("a", 1, 1), ("a", 11), ("a", "1")]
        for value, name in enumerate(names, start=1):
            self.assertEqual(memory.read(name), 0)
            memory.write(name, value)
        self.assertEqual([memory.read(name) for name in names], [1, 2, 3, 4, 5, 6])

    def test_equal_names_are_one_cell(self):
        memory = Memory()
        memory.write(tuple(["next", 1000]), 6)
        self.assertEqual(memory.read(tuple(["next", 1000])), 6)

    def test_two_memories_share_nothing(self):
        first, second = Memory(), Memory()
        first.write(A, 9)
        self.assertEqual((second.peek(A), second.accesses), (0, 0))


class SwapTest(unittest.TestCase):
    def test_a_swap_that_succeeds(self):
        memory = Memory()
        memory.write(A, 5)
        self.assertIs(memory.swap(A, 5, 6), True)
        self.assertEqual(memory.peek(A), 6)

    def test_a_swap_that_fails_changes_nothing(self):
        memory = Memory()
        memory.write(A, 5)
        self.assertIs(memory.swap(A, 4, 6), False)
        self.assertEqual(memory.peek(A), 5)

    def test_a_cell_that_was_never_changed_is_swapped_from_0(self):
        memory = Memory()
        self.assertIs(memory.swap(A, 0, 3), True)
        self.assertEqual(memory.peek(A), 3)

    def test_a_cell_that_was_never_changed_is_swapped_from_nothing_else(self):
        memory = Memory()
        for old in (1, -1, (0, 0), ()):
            self.assertIs(memory.swap(A, old, 3), False)
        self.assertEqual(memory.peek(A), 0)

    def test_a_swap_to_the_same_value_succeeds(self):
        memory = Memory()
        memory.write(A, 5)
        self.assertIs(memory.swap(A, 5, 5), True)
        self.assertEqual(memory.peek(A), 5)

    def test_a_swap_back_to_0(self):
        memory = Memory()
        memory.write(A, 5)
        self.assertIs(memory.swap(A, 5, 0), True)
        self.assertIs(memory.swap(A, 0, 2), True)
        self.assertEqual(memory.peek(A), 2)

    def test_values_are_compared_by_what_they_are(self):
        memory = Memory()
        memory.write(A, tuple([8, 10 ** 6]))
        self.assertIs(memory.swap(A, tuple([8, 10 ** 6]), (0, 2)), True)
        self.assertIs(memory.swap(A, (0, 3), (0, 4)), False)
        self.assertEqual(memory.peek(A), (0, 2))


class AccessTest(unittest.TestCase):
    def test_there_is_none_at_first(self):
        self.assertEqual(Memory().accesses, 0)

    def test_each_reading_and_writing_is_one(self):
        memory = Memory()
        memory.read(A)
        self.assertEqual(memory.accesses, 1)
        memory.write(A, 1)
        self.assertEqual(memory.accesses, 2)
        memory.write(A, 1)
        memory.read(A)
        self.assertEqual(memory.accesses, 4)

    def test_a_swap_that_succeeds_is_one(self):
        memory = Memory()
        self.assertTrue(memory.swap(A, 0, 5))
        self.assertEqual(memory.accesses, 1)

    def test_a_swap_that_fails_is_one(self):
        memory = Memory()
        self.assertFalse(memory.swap(A, 1, 5))
        self.assertEqual(memory.accesses, 1)

    def test_peek_and_set_up_are_none(self):
        memory = Memory()
        memory.set_up(A, 1)
        memory.peek(A)
        memory.peek(B)
        self.assertEqual(memory.accesses, 0)


class InterfaceTest(unittest.TestCase):
    def test_the_class_is_defined_in_its_file(self):
        self.assertEqual(Memory.__module__, memory_file.__name__)

    def test_the_methods_stand_in_the_class_itself(self):
        for name in ("read", "write", "swap", "peek", "set_up"):
            self.assertIn(name, vars(Memory))

    def test_arguments_go_by_their_names(self):
        memory = Memory()
        memory.write(cell=A, value=1)
        self.assertTrue(memory.swap(cell=A, old=1, new=2))
        self.assertEqual((memory.read(cell=A), memory.peek(cell=A)), (2, 2))
        memory.set_up(cell=A, value=3)
        self.assertEqual(memory.peek(A), 3)


if __name__ == "__main__":
    unittest.main()

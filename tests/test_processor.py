import unittest

from slabwarren import processor as processor_file
from slabwarren.processor import HOLD, Processor


class FieldTest(unittest.TestCase):
    def test_hold(self):
        self.assertEqual(HOLD, 3)

    def test_fields_at_first(self):
        processor = Processor(5, 2)
        self.assertEqual((processor.number, processor.stores), (5, [[], []]))
        self.assertEqual((processor.held, processor.unlinked, processor.retired), ([], [], []))
        self.assertIs(processor.is_reading, False)
        self.assertIsNone(processor.running)
        self.assertEqual(processor.word, "")

    def test_a_store_for_each_size(self):
        for sizes in range(4):
            self.assertEqual(len(Processor(0, sizes).stores), sizes)

    def test_the_stores_are_lists_of_their_own(self):
        processor = Processor(0, 2)
        processor.stores[0].append(7)
        self.assertEqual(processor.stores, [[7], []])

    def test_two_processors_share_nothing(self):
        first, second = Processor(0, 1), Processor(1, 1)
        for row in (first.stores[0], first.held, first.unlinked, first.retired):
            row.append((1, 1))
        self.assertEqual((second.stores, second.held, second.unlinked, second.retired), ([[]], [], [], []))


class RoomTest(unittest.TestCase):
    def test_less_than_hold_objects_leave_room(self):
        processor = Processor(0, 1)
        found = []
        for number in range(HOLD + 2):
            found.append(processor.has_room(0))
            processor.stores[0].append(number)
        self.assertEqual(found, [True, True, True, False, False])

    def test_each_size_has_room_of_its_own(self):
        processor = Processor(0, 3)
        processor.stores[1].extend([4, 5, 6])
        self.assertEqual([processor.has_room(size) for size in range(3)], [True, False, True])

    def test_it_returns_a_truth_value(self):
        self.assertIs(Processor(0, 1).has_room(0), True)


class ObjectsTest(unittest.TestCase):
    def full(self):
        processor = Processor(0, 3)
        processor.stores[0].extend([9, 3])
        processor.stores[2].extend([8])
        processor.held.extend([5, 1])
        processor.unlinked.extend([7, 2])
        processor.retired.extend([(6, 40), (0, 41)])
        return processor

    def test_nothing(self):
        self.assertEqual(Processor(0, 2).objects(), [])

    def test_everything_in_order(self):
        self.assertEqual(self.full().objects(), [
            ("store", 9), ("store", 3), ("store", 8), ("held", 5), ("held", 1),
            ("unlinked", 7), ("unlinked", 2), ("retired", 6), ("retired", 0)])

    def test_the_result_is_a_list_of_its_own(self):
        processor = self.full()
        processor.objects().clear()
        self.assertEqual(len(processor.objects()), 9)
        self.assertEqual((processor.held, processor.retired), ([5, 1], [(6, 40), (0, 41)]))


class InterfaceTest(unittest.TestCase):
    def test_the_class_is_defined_in_its_file(self):
        self.assertEqual(Processor.__module__, processor_file.__name__)

    def test_the_methods_stand_in_the_class_itself(self):
        for name in ("has_room", "objects"):
            self.assertIn(name, vars(Processor))

    def test_arguments_go_by_their_names(self):
        self.assertTrue(Processor(number=0, sizes=1).has_room(size=0))


if __name__ == "__main__":
    unittest.main()

import unittest

from slabwarren import layout as layout_file
from slabwarren.layout import Layout


class FieldTest(unittest.TestCase):
    def test_fields(self):
        layout = Layout(3, [4, 1])
        self.assertEqual((layout.pages, layout.sizes, layout.most), (3, [4, 1], 4))

    def test_most_is_the_greatest_wherever_it_stands(self):
        for sizes in ([7, 2, 3], [2, 7, 3], [2, 3, 7], [7, 7]):
            self.assertEqual(Layout(1, sizes).most, 7)

    def test_a_single_size(self):
        self.assertEqual(Layout(1, [1]).most, 1)

    def test_the_order_of_the_sizes_stays(self):
        self.assertEqual(Layout(1, [2, 5, 1, 2]).sizes, [2, 5, 1, 2])


class NumberTest(unittest.TestCase):
    def test_object_of(self):
        layout = Layout(3, [4, 1])
        self.assertEqual([layout.object_of(0, k) for k in range(4)], [0, 1, 2, 3])
        self.assertEqual([layout.object_of(2, k) for k in range(4)], [8, 9, 10, 11])

    def test_page_of(self):
        layout = Layout(3, [2, 3])
        self.assertEqual([layout.page_of(number) for number in range(9)], [0, 0, 0, 1, 1, 1, 2, 2, 2])

    def test_page_of_undoes_object_of(self):
        layout = Layout(5, [1, 6, 2])
        for page in range(5):
            for index in range(6):
                self.assertEqual(layout.page_of(layout.object_of(page, index)), page)

    def test_pages_of_one_object(self):
        layout = Layout(3, [1, 1])
        self.assertEqual([layout.object_of(page, 0) for page in range(3)], [0, 1, 2])
        self.assertEqual([layout.page_of(number) for number in range(3)], [0, 1, 2])


class ObjectsTest(unittest.TestCase):
    def test_the_greatest_size(self):
        layout = Layout(3, [4, 1])
        self.assertEqual(layout.objects(0, 0), [0, 1, 2, 3])
        self.assertEqual(layout.objects(1, 0), [4, 5, 6, 7])

    def test_a_size_that_is_not_the_greatest(self):
        layout = Layout(3, [2, 5, 3])
        self.assertEqual(layout.objects(0, 0), [0, 1])
        self.assertEqual(layout.objects(2, 0), [10, 11])
        self.assertEqual(layout.objects(2, 2), [10, 11, 12])

    def test_the_objects_belong_to_their_page(self):
        layout = Layout(4, [3, 1, 6])
        for page in range(4):
            for size in range(3):
                pages = [layout.page_of(number) for number in layout.objects(page, size)]
                self.assertEqual(pages, [page] * layout.sizes[size])


class SharingTest(unittest.TestCase):
    def test_sizes_is_a_copy(self):
        sizes = [4, 1]
        layout = Layout(3, sizes)
        sizes[0] = 9
        sizes.append(2)
        self.assertEqual((layout.sizes, layout.most, layout.objects(1, 0)), ([4, 1], 4, [4, 5, 6, 7]))

    def test_the_callers_list_stays_as_it_is(self):
        sizes = [4, 1]
        layout = Layout(3, sizes)
        layout.sizes.append(2)
        self.assertEqual(sizes, [4, 1])

    def test_each_result_of_objects_is_a_list_of_its_own(self):
        layout = Layout(3, [4, 1])
        layout.objects(1, 0).append(99)
        self.assertEqual(layout.objects(1, 0), [4, 5, 6, 7])
        self.assertEqual(layout.sizes, [4, 1])

    def test_two_layouts_share_nothing(self):
        sizes = [4, 1]
        first, second = Layout(3, sizes), Layout(3, sizes)
        first.sizes.append(2)
        self.assertEqual(second.sizes, [4, 1])


class LimitTest(unittest.TestCase):
    def test_no_pages(self):
        layout = Layout(0, [4, 1])
        self.assertEqual((layout.pages, layout.sizes, layout.most), (0, [4, 1], 4))

    def test_pages_beyond_the_last_raise_no_error(self):
        layout = Layout(0, [4, 1])
        self.assertEqual((layout.objects(1, 0), layout.object_of(1, 2), layout.page_of(9)), ([4, 5, 6, 7], 6, 2))

    def test_a_size_without_objects_raises_no_error(self):
        layout = Layout(2, [0, 3])
        self.assertEqual((layout.objects(1, 0), layout.objects(1, 1)), ([], [3, 4, 5]))

    def test_a_list_without_a_number_from_1_on_raises_no_error(self):
        layout = Layout(2, [0])
        self.assertEqual((layout.most, layout.objects(1, 0)), (0, []))
        layout.page_of(0)
        self.assertEqual((Layout(2, []).sizes, Layout(2, []).most), ([], 0))


class InterfaceTest(unittest.TestCase):
    def test_the_class_is_defined_in_its_file(self):
        self.assertEqual(Layout.__module__, layout_file.__name__)

    def test_the_methods_stand_in_the_class_itself(self):
        for name in ("object_of", "page_of", "objects"):
            self.assertIn(name, vars(Layout))

    def test_arguments_go_by_their_names(self):
        layout = Layout(pages=3, sizes=[4, 1])
        self.assertEqual(layout.object_of(page=2, index=1), 9)
        self.assertEqual(layout.page_of(number=9), 2)
        self.assertEqual(layout.objects(page=2, size=1), [8])


if __name__ == "__main__":
    unittest.main()

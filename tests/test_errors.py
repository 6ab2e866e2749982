import unittest

from slabwarren import errors
from slabwarren.errors import Misused, Refused


class RefusedTest(unittest.TestCase):
    def test_is_a_value_error(self):
        self.assertTrue(issubclass(Refused, ValueError))

    def test_is_raised_and_caught_as_a_value_error(self):
        with self.assertRaises(ValueError):
            raise Refused("no")

    def test_is_not_a_misused(self):
        self.assertFalse(isinstance(Refused("no"), Misused))


class MisusedTest(unittest.TestCase):
    def test_is_a_direct_subclass_of_refused(self):
        self.assertEqual(Misused.__bases__, (Refused,))

    def test_has_its_word(self):
        for word in ("fly", "", "call", "two words"):
            self.assertEqual(Misused(word).word, word)

    def test_takes_its_word_by_name(self):
        self.assertEqual(Misused(word="fly").word, "fly")

    def test_each_object_has_its_own_word(self):
        first, second = Misused("one"), Misused("two")
        self.assertEqual((first.word, second.word), ("one", "two"))

    def test_keeps_its_word_when_caught_as_refused(self):
        with self.assertRaises(Refused) as caught:
            raise Misused("fly")
        self.assertEqual(caught.exception.word, "fly")

    def test_is_not_made_without_a_word(self):
        with self.assertRaises(TypeError):
            Misused()


class InterfaceTest(unittest.TestCase):
    def test_classes_are_defined_in_their_file(self):
        for made in (Refused, Misused):
            self.assertEqual(made.__module__, errors.__name__)


if __name__ == "__main__":
    unittest.main()

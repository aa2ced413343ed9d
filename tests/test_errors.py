import unittest

from fewprobes import errors

WITH_VALUE = [
    "InvalidProgram", "InvalidNumber", "InvalidList", "InvalidText", "InvalidEdge", "InvalidProfile",
    "InvalidFlag", "Unlike", "TooMany",
]
BARE = ["NothingToUndo", "NothingToRedo"]


class TheErrors(unittest.TestCase):
    """[5]"""

    def test_the_one_above_is_derived_from_value_error(self):
        self.assertEqual(errors.ProbeError.__bases__, (ValueError,))

    def test_each_other_one_stands_directly_under_it(self):
        for name in WITH_VALUE + BARE:
            with self.subTest(name):
                kind = getattr(errors, name)
                self.assertEqual(kind.__name__, name)
                self.assertEqual(kind.__bases__, (errors.ProbeError,))

    def test_no_one_is_derived_from_another_one(self):
        for name in WITH_VALUE + BARE:
            for other in WITH_VALUE + BARE:
                with self.subTest(name=name, other=other):
                    derived = issubclass(getattr(errors, name), getattr(errors, other))
                    self.assertIs(derived, name == other)

    def test_the_field_holds_the_very_object(self):
        for name in WITH_VALUE:
            kind = getattr(errors, name)
            for thing in ([1, [2]], {"x": ()}, (), "a text", 0, False, None, object()):
                with self.subTest(name=name, thing=repr(thing)):
                    self.assertIs(kind(thing).value, thing)
                    self.assertIs(kind(value=thing).value, thing)

    def test_the_field_is_none_if_it_is_left_out(self):
        for name in WITH_VALUE:
            with self.subTest(name):
                self.assertIsNone(getattr(errors, name)().value)

    def test_more_arguments_are_refused(self):
        for name in WITH_VALUE:
            with self.subTest(name):
                with self.assertRaises(TypeError):
                    getattr(errors, name)(1, 2)
                with self.assertRaises(TypeError):
                    getattr(errors, name)(thing=1)

    def test_those_without_a_field_take_no_argument(self):
        for name in ["ProbeError"] + BARE:
            with self.subTest(name):
                kind = getattr(errors, name)
                self.assertFalse(hasattr(kind(), "value"))
                with self.assertRaises(TypeError):
                    kind(1)
                with self.assertRaises(TypeError):
                    kind(value=1)

    def test_each_can_be_raised_and_caught_as_what_it_is_derived_from(self):
        for name in WITH_VALUE + BARE:
            with self.subTest(name):
                kind = getattr(errors, name)
                for above in (kind, errors.ProbeError, ValueError):
                    with self.assertRaises(above):
                        raise kind()

    def test_each_is_equal_to_itself_alone(self):
        for name in ["ProbeError"] + WITH_VALUE + BARE:
            with self.subTest(name):
                one = getattr(errors, name)()
                self.assertEqual(one, one)
                self.assertNotEqual(one, getattr(errors, name)())

    def test_a_change_of_the_field_reaches_no_other_one(self):
        one, other = errors.Unlike(1), errors.Unlike(1)
        one.value = 2
        self.assertEqual(other.value, 1)

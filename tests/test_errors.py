"""The section integraph/errors.py of the interface."""

import unittest

from integraph import errors
from integraph.errors import Fault, Malformed, NoText, Refused, TooLarge, ZeroDivisor

KINDS = (ZeroDivisor, Malformed, Refused, TooLarge, NoText)


def made():
    """Returns one error of each class."""
    return (ZeroDivisor("division by zero"), Malformed("a form"), Refused("constant"),
            TooLarge("power"), NoText(7))


class Classes(unittest.TestCase):
    def test_each_class_is_caught_as_fault_and_as_value_error(self):
        for error in made():
            for base in (type(error), Fault, ValueError):
                with self.assertRaises(base) as caught:
                    raise error
                self.assertIs(caught.exception, error)

    def test_no_class_is_caught_as_another_one(self):
        for error, kind in zip(made(), KINDS):
            self.assertIs(type(error), kind)
            for other in KINDS:
                self.assertEqual(isinstance(error, other), other is kind)

    def test_fault_is_a_value_error_and_none_of_the_classes_below(self):
        self.assertTrue(issubclass(Fault, ValueError))
        for kind in KINDS:
            self.assertTrue(issubclass(kind, Fault))
            self.assertFalse(issubclass(Fault, kind))

    def test_an_error_without_words_can_be_made_where_no_attribute_is_listed(self):
        for kind in (Fault, ZeroDivisor, Malformed):
            self.assertIsInstance(kind(), Fault)

    def test_all_classes_are_defined_in_this_module(self):
        for kind in KINDS + (Fault,):
            self.assertEqual(kind.__module__, "integraph.errors")
            self.assertIs(getattr(errors, kind.__name__), kind)


class Attributes(unittest.TestCase):
    def test_refused_has_a_reason(self):
        for reason in ("zero", "constant", "root", "name"):
            self.assertEqual(Refused(reason).reason, reason)

    def test_too_large_tells_what(self):
        for what in ("power", "scale", "kernels", "text", "lines"):
            self.assertEqual(TooLarge(what).what, what)

    def test_no_text_tells_at(self):
        for at in (0, 1, 4000):
            self.assertEqual(NoText(at).at, at)

    def test_attributes_of_two_errors_are_apart(self):
        one, two = NoText(1), NoText(2)
        self.assertEqual((one.at, two.at), (1, 2))

    def test_attributes_have_the_names_of_the_interface_as_parameters(self):
        self.assertEqual(Refused(reason="root").reason, "root")
        self.assertEqual(TooLarge(what="scale").what, "scale")
        self.assertEqual(NoText(at=3).at, 3)


if __name__ == "__main__":
    unittest.main()

"""Point 102: the errors and their reasons."""

import unittest

from sealchart import errors
from sealchart.errors import BadAct, ChartError, Refused
from sealchart.limits import REASONS

NAMES = ["BadText", "BadDocument", "BadKey", "BadState", "DiskError", "DiskCrashed", "Refused", "BadAct"]


class ErrorClasses(unittest.TestCase):
    def test_chart_error_is_a_direct_subclass_of_value_error(self):
        self.assertEqual(ChartError.__bases__, (ValueError,))

    def test_each_class_is_a_direct_subclass_of_chart_error(self):
        for name in NAMES:
            with self.subTest(name):
                self.assertEqual(getattr(errors, name).__bases__, (ChartError,))

    def test_no_class_is_a_subclass_of_another_one(self):
        for name in NAMES:
            for other in NAMES:
                if name != other:
                    with self.subTest(f"{name} and {other}"):
                        self.assertFalse(issubclass(getattr(errors, name), getattr(errors, other)))

    def test_the_eight_classes_are_eight(self):
        self.assertEqual(len({getattr(errors, name) for name in NAMES}), 8)

    def test_each_class_is_defined_in_its_file_under_its_name(self):
        for name in ["ChartError", *NAMES]:
            with self.subTest(name):
                found = getattr(errors, name)
                self.assertEqual((found.__module__, found.__name__), ("sealchart.errors", name))

    def test_each_class_without_a_reason_takes_a_message_and_none(self):
        for name in ["ChartError", *NAMES[:6]]:
            with self.subTest(name):
                kind = getattr(errors, name)
                self.assertEqual(str(kind("why")), "why")
                with self.assertRaises(kind):
                    raise kind()


class Reasons(unittest.TestCase):
    def test_refused_keeps_its_reason(self):
        for reason in REASONS:
            with self.subTest(reason):
                self.assertEqual(Refused(reason).reason, reason)

    def test_bad_act_keeps_its_reason(self):
        for reason in ["roles", "expires", "list", "path", "text", "grant", "full", "absent"]:
            with self.subTest(reason):
                self.assertEqual(BadAct(reason).reason, reason)

    def test_the_argument_is_called_reason(self):
        self.assertEqual(Refused(reason="seals").reason, "seals")
        self.assertEqual(BadAct(reason="absent").reason, "absent")

    def test_the_reason_belongs_to_each_object(self):
        first, second = Refused("form"), Refused("digest")
        self.assertEqual((first.reason, second.reason), ("form", "digest"))

    def test_the_reason_is_required(self):
        for kind in [Refused, BadAct]:
            with self.subTest(kind.__name__), self.assertRaises(TypeError):
                kind()

    def test_a_raised_error_still_has_its_reason(self):
        for kind in [Refused, BadAct]:
            with self.subTest(kind.__name__):
                with self.assertRaises(ChartError) as caught:
                    raise kind("role")
                self.assertEqual(caught.exception.reason, "role")


if __name__ == "__main__":
    unittest.main()

"""Tests of point 3 and of the errors of the interface."""

import unittest

from sinktree import errors

DIRECT = (
    "BadSchema", "BadKey", "BadRecord", "DiskError", "DiskCrashed", "DiskFull",
    "BadProgram", "BadText", "BadCode",
)
PLAIN = DIRECT[:6]


class ErrorsTest(unittest.TestCase):
    def test_the_base_class_is_a_value_error(self):
        self.assertEqual(errors.SinkError.__bases__, (ValueError,))

    def test_each_error_stands_directly_under_the_base_class(self):
        for name in DIRECT:
            with self.subTest(name=name):
                self.assertEqual(getattr(errors, name).__bases__, (errors.SinkError,))

    def test_each_error_is_a_value_error(self):
        for name in DIRECT + ("SinkError",):
            with self.subTest(name=name):
                self.assertTrue(issubclass(getattr(errors, name), ValueError))

    def test_no_error_stands_under_another(self):
        for name in DIRECT:
            for other in DIRECT:
                if name != other:
                    with self.subTest(name=name, other=other):
                        self.assertFalse(issubclass(getattr(errors, name), getattr(errors, other)))

    def test_each_class_has_its_name_and_file(self):
        for name in DIRECT + ("SinkError",):
            with self.subTest(name=name):
                self.assertEqual(getattr(errors, name).__name__, name)
                self.assertEqual(getattr(errors, name).__module__, "sinktree.errors")

    def test_errors_without_arguments(self):
        for name in PLAIN:
            with self.subTest(name=name):
                with self.assertRaises(errors.SinkError) as caught:
                    raise getattr(errors, name)()
                self.assertIsInstance(caught.exception, getattr(errors, name))

    def test_bad_program_keeps_its_reason(self):
        for reason in ("shape", "field", "kind", "large", "range"):
            self.assertEqual(errors.BadProgram(reason).reason, reason)

    def test_bad_text_keeps_its_index(self):
        for index in (0, 7, 2000):
            self.assertEqual(errors.BadText(index).index, index)

    def test_bad_code_keeps_its_index_and_reason(self):
        fault = errors.BadCode(3, "merge")
        self.assertEqual((fault.index, fault.reason), (3, "merge"))

    def test_two_errors_keep_their_own_attributes(self):
        first, second = errors.BadCode(0, "shape"), errors.BadCode(400, "left")
        self.assertEqual((first.index, first.reason), (0, "shape"))
        self.assertEqual((second.index, second.reason), (400, "left"))

    def test_attributes_may_be_passed_by_name(self):
        self.assertEqual(errors.BadProgram(reason="kind").reason, "kind")
        self.assertEqual(errors.BadText(index=4).index, 4)
        fault = errors.BadCode(reason="long", index=1)
        self.assertEqual((fault.index, fault.reason), (1, "long"))

    def test_attributes_are_there_where_the_error_is_caught(self):
        with self.assertRaises(errors.BadCode) as caught:
            raise errors.BadCode(2, "empty")
        self.assertEqual((caught.exception.index, caught.exception.reason), (2, "empty"))


if __name__ == "__main__":
    unittest.main()

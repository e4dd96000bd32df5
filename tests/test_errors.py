"""The refusals: each straight under WebError, none under another one."""

import unittest

from fencewright.errors import BadWeb, NoMove, NoPlace, NoText, NotOver, WebError

KINDS = (BadWeb, NoMove, NotOver, NoPlace, NoText)


class TestErrors(unittest.TestCase):
    def test_web_error_is_straight_under_value_error(self):
        self.assertEqual(WebError.__bases__, (ValueError,))

    def test_each_is_straight_under_web_error(self):
        for kind in KINDS:
            self.assertEqual(kind.__bases__, (WebError,), kind)

    def test_names(self):
        names = [kind.__name__ for kind in KINDS]
        self.assertEqual(names, ["BadWeb", "NoMove", "NotOver", "NoPlace", "NoText"])

    def test_each_is_taken_by_web_error_and_value_error(self):
        for kind in KINDS:
            for wider in (WebError, ValueError):
                with self.assertRaises(wider):
                    raise kind("why")

    def test_none_is_taken_by_another_name(self):
        for kind in KINDS:
            for other in KINDS:
                self.assertEqual(isinstance(kind("why"), other), kind == other, (kind, other))

    def test_web_error_is_taken_by_none_of_the_five_names(self):
        self.assertNotIsInstance(WebError("why"), KINDS)


if __name__ == "__main__":
    unittest.main()

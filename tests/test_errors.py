"""The interface's section rootpeg/errors.py."""

import unittest

from rootpeg import errors

NAMES = ("NoPart", "NoRow", "NoStretch", "NotAlone", "NoQuotient")


class Errors(unittest.TestCase):
    def test_peg_error_is_a_value_error(self):
        self.assertEqual(errors.PegError.__bases__, (ValueError,))

    def test_each_refusal_is_a_peg_error(self):
        for name in NAMES:
            with self.subTest(name=name):
                self.assertEqual(getattr(errors, name).__bases__, (errors.PegError,))

    def test_no_refusal_is_another(self):
        for name in NAMES:
            for other in NAMES:
                with self.subTest(name=name, other=other):
                    same = issubclass(getattr(errors, name), getattr(errors, other))
                    self.assertEqual(same, name == other)

    def test_each_has_its_name(self):
        for name in NAMES + ("PegError",):
            self.assertEqual(getattr(errors, name).__name__, name)

    def test_each_is_raised_and_caught(self):
        for name in NAMES:
            for caught in (getattr(errors, name), errors.PegError, ValueError):
                with self.subTest(name=name, caught=caught):
                    with self.assertRaises(caught):
                        raise getattr(errors, name)("why")

    def test_a_refusal_keeps_its_words(self):
        for name in NAMES + ("PegError",):
            self.assertEqual(str(getattr(errors, name)("why")), "why")


if __name__ == "__main__":
    unittest.main()

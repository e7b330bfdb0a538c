"""The error classes: their bases, and what they keep."""

from copy import copy
from pickle import dumps, loads
from unittest import TestCase

from sendershade import errors

KEPT = (("NoToken", LookupError, "token"), ("NoWord", LookupError, "word"), ("NothingDone", LookupError, None),
        ("Unfit", ValueError, None), ("NoPaper", ValueError, None), ("TooMany", ValueError, None),
        ("BadText", ValueError, "place"), ("BadLine", ValueError, "number"))


class TestErrors(TestCase):

    def test_bases(self):
        for name, base, _ in KEPT:
            with self.subTest(name):
                self.assertEqual(getattr(errors, name).__bases__, (base,))

    def test_attributes(self):
        for name, _, attribute in KEPT:
            with self.subTest(name):
                if attribute is None:
                    self.assertEqual(vars(getattr(errors, name)()), {})
                else:
                    self.assertEqual(vars(getattr(errors, name)(7)), {attribute: 7})
                    self.assertEqual(vars(getattr(errors, name)(**{attribute: "x"})), {attribute: "x"})

    def test_raised_and_caught(self):
        with self.assertRaises(LookupError) as caught:
            raise errors.NoToken(-3)
        self.assertEqual(caught.exception.token, -3)
        with self.assertRaises(ValueError):
            raise errors.Unfit()

    def test_copied(self):
        for error in (errors.NoToken(4), errors.NoWord("bold"), errors.NothingDone(), errors.Unfit(), errors.NoPaper(),
                      errors.TooMany(), errors.BadText(2), errors.BadLine(3)):
            for other in (copy(error), loads(dumps(error))):
                self.assertEqual((other.__class__, vars(other)), (error.__class__, vars(error)))

"""The classes of the refusals and their fields."""

import unittest

from leadersplice import errors

PLAIN = ("NoKey", "NoFade", "TooMany", "NoPlace", "NoRow")
WITH_FIELDS = {
    "NoReel": ("number",),
    "NoFrame": ("reel", "frame"),
    "NoName": ("name",),
    "NoList": ("word",),
    "TooShort": ("number",),
}


def all_kin():
    return [getattr(errors, name) for name in PLAIN + tuple(WITH_FIELDS)]


class Kinship(unittest.TestCase):
    def test_any_refusal_is_a_value_error(self):
        self.assertTrue(issubclass(errors.SpliceError, ValueError))

    def test_each_stands_under_splice_error(self):
        for kin in all_kin():
            with self.subTest(kin.__name__):
                self.assertTrue(issubclass(kin, errors.SpliceError))
                self.assertIsNot(kin, errors.SpliceError)

    def test_none_stands_under_another(self):
        for kin in all_kin():
            for other in all_kin():
                with self.subTest(kin.__name__, other=other.__name__):
                    self.assertEqual(issubclass(kin, other), kin.__name__ == other.__name__)


class Fields(unittest.TestCase):
    def test_fields_are_set_when_made(self):
        for name, fields in WITH_FIELDS.items():
            values = [f"value {k}" for k in range(len(fields))]
            made = getattr(errors, name)(*values)
            with self.subTest(name):
                self.assertEqual([getattr(made, field) for field in fields], values)

    def test_fields_belong_to_each_object(self):
        first = errors.NoFrame("a", 3)
        second = errors.NoFrame("b", None)
        self.assertEqual((first.reel, first.frame), ("a", 3))
        self.assertEqual((second.reel, second.frame), ("b", None))

    def test_none_is_kept_as_a_word(self):
        self.assertIsNone(errors.NoList(None).word)

    def test_plain_ones_can_be_made_with_words(self):
        for name in PLAIN:
            with self.subTest(name):
                self.assertEqual(str(getattr(errors, name)("words")), "words")

"""Point 5: edge numbers, read and written."""

import string
import unittest

from leadersplice.errors import NoKey
from leadersplice.keys import read_key, show_key

GOOD = "AB0012+05"
PRINTABLE = [chr(code) for code in range(32, 127)]
# Letters and figures of other alphabets, and signs that int() would pass over.
FOREIGN = ["\u00c4", "\u0391", "\u0661", "\u00b2", "\uff10", "\uff21", "\n", "\t", "\0"]
KNOWN = [
    ("AB0012+05", ("AB", 197)),
    ("AA0000+00", ("AA", 0)),
    ("ZZ9999+15", ("ZZ", 159999)),
    ("AZ0000+15", ("AZ", 15)),
    ("AZ0001+00", ("AZ", 16)),
    ("ZA0999+15", ("ZA", 15999)),
    ("ZA1000+00", ("ZA", 16000)),
    ("QX0009+09", ("QX", 153)),
    ("QX0009+10", ("QX", 154)),
]


class Known(unittest.TestCase):
    def test_read(self):
        for text, key in KNOWN:
            with self.subTest(text):
                told = read_key(text)
                self.assertEqual(told, key)
                self.assertIs(type(told), tuple)

    def test_written(self):
        for text, key in KNOWN:
            with self.subTest(text):
                self.assertEqual(show_key(key), text)

    def test_each_great_letter_at_both_places(self):
        for letter in string.ascii_uppercase:
            for letters in (letter + "M", "M" + letter):
                with self.subTest(letters):
                    self.assertEqual(read_key(letters + "0001+02"), (letters, 18))
                    self.assertEqual(show_key((letters, 18)), letters + "0001+02")


class BackAgain(unittest.TestCase):
    def test_each_number_is_read_back(self):
        wrong = [n for n in range(160000) if read_key(show_key(("KL", n))) != ("KL", n)]
        self.assertEqual(wrong, [])

    def test_each_text_is_written_back(self):
        texts = [f"KL{feet:04}+{frames:02}" for feet in range(0, 10000, 37) for frames in range(16)]
        wrong = [text for text in texts if show_key(read_key(text)) != text]
        self.assertEqual(wrong, [])


class Refused(unittest.TestCase):
    def assert_no_key(self, text):
        with self.subTest(text=text):
            with self.assertRaises(NoKey):
                read_key(text)

    def test_frames_above_fifteen(self):
        for frames in range(16, 100):
            self.assert_no_key(f"AB0012+{frames}")

    def test_a_sign_too_few_at_any_place(self):
        for text in (GOOD, "AA0000+00", "ZZ9999+15"):
            for place in range(len(text)):
                self.assert_no_key(text[:place] + text[place + 1:])

    def test_a_sign_too_many_at_any_place(self):
        for place in range(len(GOOD) + 1):
            for sign in "A0+ a-\n":
                self.assert_no_key(GOOD[:place] + sign + GOOD[place:])

    def test_another_sign_at_each_place(self):
        for place in range(len(GOOD)):
            allowed = string.digits
            if place < 2:
                allowed = string.ascii_uppercase
            elif place == 6:
                allowed = "+"
            elif place == 7:
                allowed = "01"
            for sign in PRINTABLE + FOREIGN:
                if sign not in allowed:
                    self.assert_no_key(GOOD[:place] + sign + GOOD[place + 1:])

    def test_signs_that_python_reads_as_numbers(self):
        for text in ("AB+012+05", "AB-012+05", "AB 012+05", "AB012 +05", "AB1_12+05", "AB0012++5", "AB0012+-5",
                     "AB0012+ 5", "AB0012+5 "):
            self.assert_no_key(text)

    def test_no_signs(self):
        self.assert_no_key("")

    def test_many_signs(self):
        self.assert_no_key(GOOD * 300)

    def test_what_is_no_text(self):
        for thing in (None, 0, 197, 10 ** 5000, True, False, ("AB", 197), list(GOOD), tuple(GOOD), [], {}, b"AB0012+05"):
            with self.assertRaises(NoKey):
                read_key(thing)

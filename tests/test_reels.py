"""Points 6 and 7: reels, and the edge numbers of their frames."""

import unittest

from leadersplice.errors import NoFrame, NoName, NoReel
from leadersplice.reels import checked, frame_of, key_of

ALPHA = ("alpha", "AB", 100, 50)
BETA = ("b", "AB", 120, 1)
GAMMA = ("gammaray", "ZZ", 159990, 10)
REELS = [ALPHA, BETA, GAMMA]

# One reel for each way in which point 6 lets it be none.
NO_REELS = {
    "name without signs": ("", "AB", 0, 1),
    "name of nine letters": ("abcdefghi", "AB", 0, 1),
    "name with a great letter": ("aB", "AB", 0, 1),
    "name with a figure": ("a1", "AB", 0, 1),
    "name with a blank ahead": (" a", "AB", 0, 1),
    "name with a blank behind": ("a ", "AB", 0, 1),
    "name with a row's end": ("a\n", "AB", 0, 1),
    "name with a stroke": ("a_b", "AB", 0, 1),
    "name with the sign ahead of a": ("`", "AB", 0, 1),
    "name with the sign behind z": ("{", "AB", 0, 1),
    "name with a foreign letter": ("\u00e4", "AB", 0, 1),
    "name None": (None, "AB", 0, 1),
    "name a number": (7, "AB", 0, 1),
    "name a list": (["a"], "AB", 0, 1),
    "name a tuple": (("a",), "AB", 0, 1),
    "no letters": ("x", "", 0, 1),
    "one letter": ("x", "A", 0, 1),
    "three letters": ("x", "ABC", 0, 1),
    "small letters": ("x", "ab", 0, 1),
    "small letter first": ("x", "aB", 0, 1),
    "small letter second": ("x", "Ab", 0, 1),
    "figure for a letter": ("x", "A1", 0, 1),
    "blank for a letter": ("x", "A ", 0, 1),
    "sign ahead of A": ("x", "@A", 0, 1),
    "sign behind Z": ("x", "Z[", 0, 1),
    "foreign letter": ("x", "A\u00c4", 0, 1),
    "letters None": ("x", None, 0, 1),
    "letters a tuple": ("x", ("A", "B"), 0, 1),
    "letters a list": ("x", ["A", "B"], 0, 1),
    "start below 0": ("x", "AB", -1, 2),
    "start above the greatest": ("x", "AB", 160000, 1),
    "start above, and no frames": ("x", "AB", 160000, 0),
    "start True": ("x", "AB", True, 1),
    "start False": ("x", "AB", False, 1),
    "start None": ("x", "AB", None, 1),
    "start a text": ("x", "AB", "0", 1),
    "no frames": ("x", "AB", 5, 0),
    "frames below 0": ("x", "AB", 5, -1),
    "one frame too many": ("x", "AB", 0, 160001),
    "one frame too many from the last": ("x", "AB", 159999, 2),
    "one frame too many from the middle": ("x", "AB", 80000, 80001),
    "far too many": ("x", "AB", 0, 10 ** 30),
    "many True": ("x", "AB", 0, True),
    "many None": ("x", "AB", 0, None),
    "many a text": ("x", "AB", 0, "1"),
}


class GoodReels(unittest.TestCase):
    def assert_good(self, reels):
        before = list(reels)
        with self.subTest(reels=reels):
            told = checked(reels)
            self.assertEqual(told, before)
            self.assertIs(type(told), list)
            self.assertEqual(reels, before)

    def test_none_one_and_twelve(self):
        self.assert_good([])
        self.assert_good([ALPHA])
        self.assert_good([(letter, "AA", 0, 1) for letter in "lkjihgfedcba"])

    def test_names(self):
        self.assert_good([("a", "AB", 0, 1), ("z", "AB", 0, 1)])
        self.assert_good([("abcdefgh", "AB", 0, 1), ("stuvwxyz", "AB", 0, 1), ("ijklmnop", "AB", 0, 1)])

    def test_names_that_begin_one_another(self):
        names = ["abcd", "a", "abcdefgh", "ab", "abc"]
        self.assert_good([(name, "AB", 0, 1) for name in names])

    def test_letters(self):
        self.assert_good([("a", "AA", 0, 1), ("b", "ZZ", 0, 1), ("c", "AZ", 0, 1), ("d", "ZA", 0, 1)])

    def test_starts(self):
        self.assert_good([("a", "AB", 0, 1)])
        self.assert_good([("a", "AB", 159999, 1)])

    def test_ends_at_the_last_edge_number(self):
        for start in (0, 1, 80000, 159998, 159999):
            self.assert_good([("a", "AB", start, 160000 - start)])

    def test_reels_may_bear_the_same_edge_numbers(self):
        self.assert_good([("a", "AB", 0, 9), ("b", "AB", 0, 9), ("c", "AB", 4, 9)])

    def test_told_list_belongs_to_the_asker(self):
        reels = list(REELS)
        told = checked(reels)
        told.clear()
        self.assertEqual(reels, REELS)
        self.assertEqual(checked(reels), REELS)

    def test_later_changes_do_not_reach_what_was_told(self):
        reels = list(REELS)
        told = checked(reels)
        reels.append(("", "", 0, 0))
        self.assertEqual(told, REELS)


class NotReels(unittest.TestCase):
    def assert_no_reel(self, reels, number):
        before = list(reels)
        with self.assertRaises(NoReel) as caught:
            checked(reels)
        self.assertEqual(caught.exception.number, number)
        self.assertEqual(reels, before)

    def test_each_reason_at_each_place(self):
        for why, bad in NO_REELS.items():
            for place in range(len(REELS) + 1):
                with self.subTest(why, place=place):
                    self.assert_no_reel(REELS[:place] + [bad] + REELS[place:], place)

    def test_each_reason_alone_and_as_the_last_of_twelve(self):
        eleven = [(letter, "AA", 0, 1) for letter in "abcdefghijk"]
        for why, bad in NO_REELS.items():
            with self.subTest(why):
                self.assert_no_reel([bad], 0)
                self.assert_no_reel(eleven + [bad], 11)

    def test_name_of_a_reel_ahead(self):
        again = ("alpha", "CD", 0, 1)
        self.assert_no_reel([ALPHA, again], 1)
        self.assert_no_reel([ALPHA, again, BETA, GAMMA], 1)
        self.assert_no_reel([ALPHA, BETA, again, GAMMA], 2)
        self.assert_no_reel([ALPHA, BETA, GAMMA, again], 3)
        self.assert_no_reel([BETA, ALPHA, GAMMA, again], 3)
        self.assert_no_reel([ALPHA, BETA, ALPHA], 2)

    def test_the_first_of_two_decides(self):
        for why, bad in NO_REELS.items():
            with self.subTest(why):
                self.assert_no_reel([ALPHA, bad, BETA, ("", "", -1, 0)], 1)
                self.assert_no_reel([ALPHA, ("y", "AB", 0, 0), BETA, bad], 1)
                self.assert_no_reel([ALPHA, ALPHA, bad], 1)
                self.assert_no_reel([ALPHA, bad, ALPHA], 1)


class FramesToKeys(unittest.TestCase):
    def test_first_middle_and_last(self):
        self.assertEqual(key_of(REELS, "alpha", 0), ("AB", 100))
        self.assertEqual(key_of(REELS, "alpha", 7), ("AB", 107))
        self.assertEqual(key_of(REELS, "alpha", 49), ("AB", 149))
        self.assertEqual(key_of(REELS, "b", 0), ("AB", 120))
        self.assertEqual(key_of(REELS, "gammaray", 0), ("ZZ", 159990))
        self.assertEqual(key_of(REELS, "gammaray", 9), ("ZZ", 159999))

    def test_kind(self):
        self.assertIs(type(key_of(REELS, "alpha", 0)), tuple)

    def test_no_such_frame(self):
        for reel in REELS:
            for frame in (-1, -reel[3], reel[3], reel[3] + 1, reel[2] + reel[3], 160000, 10 ** 5000, -10 ** 5000):
                if frame == 0:
                    continue
                with self.assertRaises(NoFrame) as caught:
                    key_of(REELS, reel[0], frame)
                self.assertTrue(caught.exception.frame == frame)
                self.assertEqual(caught.exception.reel, reel[0])

    def test_true_and_false_are_no_frames(self):
        for frame in (True, False):
            with self.assertRaises(NoFrame) as caught:
                key_of(REELS, "alpha", frame)
            self.assertIs(caught.exception.frame, frame)


class KeysToFrames(unittest.TestCase):
    def assert_no_frame(self, name, key):
        with self.subTest(name=name, key=key):
            with self.assertRaises(NoFrame) as caught:
                frame_of(REELS, name, key)
            self.assertEqual(caught.exception.reel, name)
            self.assertIsNone(caught.exception.frame)

    def test_first_middle_and_last(self):
        self.assertEqual(frame_of(REELS, "alpha", ("AB", 100)), 0)
        self.assertEqual(frame_of(REELS, "alpha", ("AB", 120)), 20)
        self.assertEqual(frame_of(REELS, "alpha", ("AB", 149)), 49)
        self.assertEqual(frame_of(REELS, "b", ("AB", 120)), 0)
        self.assertEqual(frame_of(REELS, "gammaray", ("ZZ", 159990)), 0)
        self.assertEqual(frame_of(REELS, "gammaray", ("ZZ", 159999)), 9)

    def test_each_frame_there_and_back(self):
        for name, letters, start, many in REELS:
            for frame in range(many):
                key = key_of(REELS, name, frame)
                self.assertEqual(key, (letters, start + frame))
                self.assertEqual(frame_of(REELS, name, key), frame)

    def test_just_ahead_and_just_behind(self):
        for name, letters, start, many in REELS:
            self.assert_no_frame(name, (letters, start - 1))
            self.assert_no_frame(name, (letters, start + many))

    def test_far_off(self):
        self.assert_no_frame("alpha", ("AB", 0))
        self.assert_no_frame("alpha", ("AB", 49))
        self.assert_no_frame("alpha", ("AB", 159999))

    def test_other_letters(self):
        for letters in ("ZZ", "AC", "BB", "BA", "ab"):
            self.assert_no_frame("alpha", (letters, 100))
        self.assert_no_frame("gammaray", ("AB", 159995))

    def test_true_is_no_number(self):
        reels = [("a", "AB", 0, 9)]
        for number in (True, False):
            with self.assertRaises(NoFrame) as caught:
                frame_of(reels, "a", ("AB", number))
            self.assertIsNone(caught.exception.frame)


class Names(unittest.TestCase):
    def assert_no_name(self, reels, name):
        with self.subTest(name=name):
            for asked, thing in ((key_of, 0), (key_of, -1), (frame_of, ("AB", 100)), (frame_of, ("QQ", 0))):
                with self.assertRaises(NoName) as caught:
                    asked(reels, name, thing)
                self.assertEqual(caught.exception.name, name)

    def test_not_there(self):
        for name in ("beta", "alph", "alphab", "Alpha", "a", "gammara", "", "AB"):
            self.assert_no_name(REELS, name)

    def test_no_reels(self):
        self.assert_no_name([], "alpha")

    def test_names_that_begin_one_another(self):
        reels = [("abc", "CC", 30, 3), ("a", "AA", 10, 1), ("ab", "BB", 20, 2)]
        self.assertEqual(key_of(reels, "a", 0), ("AA", 10))
        self.assertEqual(key_of(reels, "ab", 1), ("BB", 21))
        self.assertEqual(key_of(reels, "abc", 2), ("CC", 32))
        self.assertEqual(frame_of(reels, "ab", ("BB", 21)), 1)


class HandedIn(unittest.TestCase):
    def test_reels_stay(self):
        reels = list(REELS)
        key_of(reels, "b", 0)
        frame_of(reels, "b", ("AB", 120))
        self.assertRaises(NoFrame, key_of, reels, "b", 1)
        self.assertRaises(NoFrame, frame_of, reels, "b", ("AB", 121))
        self.assertRaises(NoName, key_of, reels, "c", 0)
        self.assertEqual(reels, REELS)

    def test_nothing_is_remembered(self):
        reels = [("a", "AB", 0, 9)]
        self.assertEqual(key_of(reels, "a", 3), ("AB", 3))
        reels[0] = ("a", "CD", 50, 9)
        self.assertEqual(key_of(reels, "a", 3), ("CD", 53))
        self.assertEqual(frame_of(reels, "a", ("CD", 53)), 3)

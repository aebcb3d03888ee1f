"""Points 16, 17 and 18, and point 4 of them: strips, joins and the frames of a strip."""

import copy
import random
import unittest

from leadersplice.listtexts import read_list, show_list
from leadersplice.lists import turned
from leadersplice.played import played
from leadersplice.shown import length, shown
from leadersplice.strips import frames_of, joins, strips_of
from tests.helper import cuttings, drawn_clips, drawn_text, frames_with_fades, is_strip, parts_of, refusal_of

REELS = [("a", "AB", 100, 60), ("b", "AB", 0, 60), ("long", "LL", 0, 5000)]


def cut(text, parts=None):
    return strips_of(played(read_list(text), parts or {}, REELS))


def longest_first(row):
    """Each strip goes as far as a strip can go at all."""
    strips = []
    while row:
        end = max(end for end in range(1, len(row) + 1) if is_strip(row[:end]))
        strips.append((row[0][0], row[0][1], row[end - 1][1], row[0][2]))
        row = row[end:]
    return strips


class OneStrip(unittest.TestCase):
    def test_nothing(self):
        self.assertEqual(strips_of([]), [])

    def test_a_clip(self):
        self.assertEqual(cut("a:3-9"), [("a", 3, 9, 0)])
        self.assertEqual(cut("a:9-3"), [("a", 9, 3, 0)])
        self.assertEqual(cut("a:5"), [("a", 5, 5, 0)])
        self.assertEqual(cut("a:1-0"), [("a", 1, 0, 0)])
        self.assertEqual(cut("long:1999-0"), [("long", 1999, 0, 0)])

    def test_kinds(self):
        told = cut("a:3-6 ~2 b:1-4 b:5 a:1")
        self.assertIs(type(told), list)
        for strip in told:
            self.assertIs(type(strip), tuple)
            self.assertEqual([type(thing) for thing in strip], [str, int, int, int])

    def test_gone_on_upward(self):
        self.assertEqual(cut("a:3-5 a:6-9"), [("a", 3, 9, 0)])
        self.assertEqual(cut("a:3-5 a:6 a:7 a:8-9"), [("a", 3, 9, 0)])

    def test_gone_on_downward(self):
        self.assertEqual(cut("a:9-6 a:5-3"), [("a", 9, 3, 0)])
        self.assertEqual(cut("a:9-6 a:5 a:4 a:3-0"), [("a", 9, 0, 0)])

    def test_of_one_frame_takes_either_way(self):
        self.assertEqual(cut("a:5 a:6-9"), [("a", 5, 9, 0)])
        self.assertEqual(cut("a:5 a:4-0"), [("a", 5, 0, 0)])
        self.assertEqual(cut("a:5 a:6"), [("a", 5, 6, 0)])
        self.assertEqual(cut("a:5 a:4"), [("a", 5, 4, 0)])
        self.assertEqual(cut("a:5 a:4 a:3"), [("a", 5, 3, 0)])

    def test_through_parts_and_backs(self):
        parts = parts_of(x="a:0-3", y="a:4 a:5-7")
        self.assertEqual(cut("x y", parts), [("a", 0, 7, 0)])
        self.assertEqual(cut("-( y ) -( x )", parts), [("a", 7, 0, 0)])
        self.assertEqual(cut("-( x y )", parts), [("a", 7, 0, 0)])


class SeveralStrips(unittest.TestCase):
    def test_the_same_frame_twice(self):
        self.assertEqual(cut("a:5 a:5"), [("a", 5, 5, 0), ("a", 5, 5, 0)])
        self.assertEqual(cut("a:3-5 a:5-9"), [("a", 3, 5, 0), ("a", 5, 9, 0)])
        self.assertEqual(cut("2*( a:3-5 )"), [("a", 3, 5, 0), ("a", 3, 5, 0)])

    def test_a_frame_left_out(self):
        self.assertEqual(cut("a:3-5 a:7-9"), [("a", 3, 5, 0), ("a", 7, 9, 0)])
        self.assertEqual(cut("a:5 a:7"), [("a", 5, 5, 0), ("a", 7, 7, 0)])
        self.assertEqual(cut("a:9-7 a:5-3"), [("a", 9, 7, 0), ("a", 5, 3, 0)])

    def test_another_reel(self):
        self.assertEqual(cut("a:3-5 b:6-9"), [("a", 3, 5, 0), ("b", 6, 9, 0)])
        self.assertEqual(cut("a:5 b:6"), [("a", 5, 5, 0), ("b", 6, 6, 0)])
        self.assertEqual(cut("a:5 b:3 a:6"), [("a", 5, 5, 0), ("b", 3, 3, 0), ("a", 6, 6, 0)])

    def test_the_other_way_than_its_own(self):
        self.assertEqual(cut("a:3-5 a:4-0"), [("a", 3, 5, 0), ("a", 4, 0, 0)])
        self.assertEqual(cut("a:5-3 a:4-9"), [("a", 5, 3, 0), ("a", 4, 9, 0)])
        self.assertEqual(cut("a:3-5 a:4"), [("a", 3, 5, 0), ("a", 4, 4, 0)])
        self.assertEqual(cut("a:3-5 a:2"), [("a", 3, 5, 0), ("a", 2, 2, 0)])
        self.assertEqual(cut("a:5-3 a:6"), [("a", 5, 3, 0), ("a", 6, 6, 0)])

    def test_a_way_that_came_of_two_clips(self):
        self.assertEqual(cut("a:5 a:6 a:5"), [("a", 5, 6, 0), ("a", 5, 5, 0)])
        self.assertEqual(cut("a:5 a:4 a:5 a:6"), [("a", 5, 4, 0), ("a", 5, 6, 0)])

    def test_one_clip_on_two_strips(self):
        self.assertEqual(cut("a:5 a:4-9"), [("a", 5, 4, 0), ("a", 5, 9, 0)])
        self.assertEqual(cut("a:5 a:6-3"), [("a", 5, 6, 0), ("a", 5, 3, 0)])
        self.assertEqual(cut("a:5 a:6-3 b:1 b:0-2"), [("a", 5, 6, 0), ("a", 5, 3, 0), ("b", 1, 0, 0), ("b", 1, 2, 0)])

    def test_as_far_as_it_can_go(self):
        self.assertEqual(cut("a:1 a:2 a:1 a:2 a:1"), [("a", 1, 2, 0), ("a", 1, 2, 0), ("a", 1, 1, 0)])


class Fades(unittest.TestCase):
    def test_begin_a_strip_though_the_frame_would_fit(self):
        self.assertEqual(cut("a:3-5 ~1 a:6-9"), [("a", 3, 5, 0), ("a", 6, 9, 1)])
        self.assertEqual(cut("a:9-6 ~2 a:5-3"), [("a", 9, 6, 0), ("a", 5, 3, 2)])
        self.assertEqual(cut("a:5 ~1 a:6"), [("a", 5, 5, 0), ("a", 6, 6, 1)])

    def test_are_that_of_the_clip(self):
        self.assertEqual(cut("a:0-9 ~4 b:0-9 ~3 a:9-0"), [("a", 0, 9, 0), ("b", 0, 9, 4), ("a", 9, 0, 3)])

    def test_all_others_have_none(self):
        self.assertEqual(cut("a:0-9 ~4 b:0-9 a:3-1 b:5"), [("a", 0, 9, 0), ("b", 0, 9, 4), ("a", 3, 1, 0), ("b", 5, 5, 0)])

    def test_a_strip_with_a_fade_is_gone_on_with(self):
        self.assertEqual(cut("b:0-9 ~2 a:3-5 a:6-9"), [("b", 0, 9, 0), ("a", 3, 9, 2)])
        self.assertEqual(cut("b:0-9 ~1 a:5 a:4-0"), [("b", 0, 9, 0), ("a", 5, 0, 1)])
        self.assertEqual(cut("b:0-9 ~1 a:5 a:6 a:5"), [("b", 0, 9, 0), ("a", 5, 6, 1), ("a", 5, 5, 0)])

    def test_behind_a_clip_on_two_strips(self):
        self.assertEqual(cut("a:5 a:4-5 ~2 b:0-9"), [("a", 5, 4, 0), ("a", 5, 5, 0), ("b", 0, 9, 2)])


class Joins(unittest.TestCase):
    def assert_joins(self, text, many):
        with self.subTest(text):
            self.assertEqual(joins(played(read_list(text), {}, REELS)), many)

    def test_none(self):
        self.assertEqual(joins([]), 0)
        self.assert_joins("a:3", 0)
        self.assert_joins("a:3-9 a:10-20 a:21", 0)

    def test_one(self):
        self.assert_joins("a:3 b:4", 1)
        self.assert_joins("a:3 a:3", 1)
        self.assert_joins("a:3-5 ~1 a:6-9", 1)
        self.assert_joins("a:5 a:4-9", 1)

    def test_many(self):
        self.assert_joins("20*( a:3 )", 19)
        self.assert_joins("20*( 5*( a:0-9 ) )", 99)
        self.assert_joins("3*( a:0-9 ~3 b:0-9 )", 5)
        self.assert_joins("20*( a:2 a:1-3 )", 39)


class Frames(unittest.TestCase):
    def test_either_way(self):
        self.assertEqual(frames_of(("a", 3, 6, 0)), [3, 4, 5, 6])
        self.assertEqual(frames_of(("a", 6, 3, 0)), [6, 5, 4, 3])
        self.assertEqual(frames_of(("a", 5, 5, 0)), [5])
        self.assertEqual(frames_of(("a", 0, 1, 1)), [0, 1])
        self.assertEqual(frames_of(("a", 2, 0, 2)), [2, 1, 0])
        self.assertEqual(frames_of(("long", 1999, 0, 0)), list(range(2000))[::-1])

    def test_a_new_list_each_time(self):
        strip = ("a", 3, 5, 2)
        first = frames_of(strip)
        self.assertIs(type(first), list)
        first.clear()
        self.assertEqual(frames_of(strip), [3, 4, 5])


class ManyFilms(unittest.TestCase):
    def test_each_goes_as_far_as_it_can(self):
        chance = random.Random(16)
        for _ in range(2000):
            clips = drawn_clips(chance, 8, 6)
            self.assertEqual(strips_of(clips), longest_first(frames_with_fades(clips)), clips)

    def test_no_cutting_has_fewer_joins(self):
        chance = random.Random(17)
        some = 0
        for _ in range(700):
            clips = drawn_clips(chance, 5, 4)
            every = list(cuttings(frames_with_fades(clips)))
            some += len(every) > 1
            self.assertIn(strips_of(clips), every, clips)
            self.assertEqual(joins(clips), min(len(cutting) for cutting in every) - 1, clips)
        self.assertGreater(some, 500)

    def test_the_strips_show_just_the_film(self):
        chance = random.Random(18)
        for _ in range(1000):
            clips = drawn_clips(chance, 8, 6)
            strips = strips_of(clips)
            frames = [(strip[0], number) for strip in strips for number in frames_of(strip)]
            self.assertEqual(frames, [frame[:2] for frame in frames_with_fades(clips)], clips)
            self.assertEqual(shown(strips), shown(clips), clips)
            self.assertEqual(length(strips), length(clips), clips)

    def test_turned_about_there_are_as_many_joins(self):
        chance = random.Random(19)
        some = 0
        for _ in range(1500):
            items = read_list(drawn_text(chance))
            if refusal_of(played, items, {}, REELS):
                continue
            some += 1
            there = joins(played(items, {}, REELS))
            self.assertEqual(joins(played(turned(items), {}, REELS)), there, show_list(items))
            self.assertEqual(joins(played((("back", items),), {}, REELS)), there, show_list(items))
        self.assertGreater(some, 500)


class HandedIn(unittest.TestCase):
    def test_all_stays(self):
        clips = [("a", 0, 9, 0), ("b", 9, 0, 4), ("b", 1, 1, 0), ("a", 3, 3, 0)]
        before = copy.deepcopy(clips)
        strips_of(clips)
        joins(clips)
        self.assertEqual(clips, before)

    def test_the_list_told_is_a_new_one(self):
        clips = [("a", 0, 1, 0), ("b", 9, 8, 1)]
        first = strips_of(clips)
        self.assertIsNot(first, clips)
        before = list(first)
        first.clear()
        self.assertEqual(strips_of(clips), before)
        told = strips_of(clips)
        clips.clear()
        self.assertEqual(told, before)

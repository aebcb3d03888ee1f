"""Points 14 and 15: the way of a clip, what is shown at each moment, and how long the film is."""

import copy
import random
import unittest

from leadersplice.listtexts import read_list
from leadersplice.played import played
from leadersplice.shown import length, shown, way_of
from tests.helper import drawn_clips, parts_of

REELS = [("a", "AB", 100, 60), ("b", "AB", 0, 60), ("long", "LL", 0, 5000)]


def show(text, parts=None):
    return shown(played(read_list(text), parts or {}, REELS))


def alone(reel, *numbers):
    return [((reel, number, 1, 1),) for number in numbers]


def by_moments(clips):
    """What is shown, each moment found out by itself from where each clip begins."""
    spans = []
    for reel, first, last, fade in clips:
        begin = spans[-1][1] - fade if spans else 0
        spans.append((begin, begin + abs(last - first) + 1))
    told = []
    for moment in range(spans[-1][1] if spans else 0):
        seen = [k for k, (begin, end) in enumerate(spans) if begin <= moment < end]
        frames = []
        for k in seen:
            reel, first, last, _ = clips[k]
            done = moment - spans[k][0]
            frames.append((reel, first + done if first <= last else first - done))
        if len(seen) == 1:
            told.append((frames[0] + (1, 1),))
        else:
            many = clips[seen[1]][3]
            part = moment - spans[seen[1]][0] + 1
            told.append((frames[0] + (many + 1 - part, many + 1), frames[1] + (part, many + 1)))
    return told


class Ways(unittest.TestCase):
    def test_each(self):
        self.assertEqual(way_of(("a", 3, 9, 0)), 1)
        self.assertEqual(way_of(("a", 9, 3, 0)), -1)
        self.assertEqual(way_of(("a", 4, 3, 2)), -1)
        self.assertEqual(way_of(("a", 5, 5, 0)), 1)
        self.assertEqual(way_of(("a", 0, 0, 1)), 1)


class Alone(unittest.TestCase):
    def test_nothing(self):
        self.assertEqual(shown([]), [])
        self.assertEqual(length([]), 0)

    def test_one_clip(self):
        self.assertEqual(show("a:3"), alone("a", 3))
        self.assertEqual(show("a:0"), alone("a", 0))
        self.assertEqual(show("a:3-6"), alone("a", 3, 4, 5, 6))
        self.assertEqual(show("a:6-3"), alone("a", 6, 5, 4, 3))
        self.assertEqual(show("a:1-0"), alone("a", 1, 0))

    def test_several(self):
        self.assertEqual(show("a:3-4 b:9-8 a:4 a:4 -( b:1-3 )"),
                         alone("a", 3, 4) + alone("b", 9, 8) + alone("a", 4, 4) + alone("b", 3, 2, 1))

    def test_kinds(self):
        told = show("a:3-6 ~2 b:1-4")
        self.assertIs(type(told), list)
        for moment in told:
            self.assertIs(type(moment), tuple)
            for frame in moment:
                self.assertIs(type(frame), tuple)
                self.assertEqual([type(thing) for thing in frame], [str, int, int, int])


class Fades(unittest.TestCase):
    def test_of_one_frame(self):
        self.assertEqual(show("a:0-2 ~1 b:7-9"), alone("a", 0, 1) + [
            (("a", 2, 1, 2), ("b", 7, 1, 2))] + alone("b", 8, 9))

    def test_of_three_frames(self):
        self.assertEqual(show("a:0-4 ~3 b:9-5"), alone("a", 0, 1) + [
            (("a", 2, 3, 4), ("b", 9, 1, 4)),
            (("a", 3, 2, 4), ("b", 8, 2, 4)),
            (("a", 4, 1, 4), ("b", 7, 3, 4))] + alone("b", 6, 5))

    def test_of_many_frames(self):
        told = show("long:0-299 ~200 long:4999-4700")
        self.assertEqual(len(told), 400)
        self.assertEqual(told[99], (("long", 99, 1, 1),))
        self.assertEqual(told[100], (("long", 100, 200, 201), ("long", 4999, 1, 201)))
        self.assertEqual(told[199], (("long", 199, 101, 201), ("long", 4900, 100, 201)))
        self.assertEqual(told[200], (("long", 200, 100, 201), ("long", 4899, 101, 201)))
        self.assertEqual(told[299], (("long", 299, 1, 201), ("long", 4800, 200, 201)))
        self.assertEqual(told[300], (("long", 4799, 1, 1),))

    def test_the_light_is_whole_at_each_moment(self):
        for moment in show("a:0-19 ~7 b:0-19 ~13 a:50-30 ~1 b:3"):
            self.assertEqual(sum(frame[2] for frame in moment), moment[0][3])
            self.assertEqual(len({frame[3] for frame in moment}), 1)

    def test_all_frames_of_a_clip_within_its_two_fades(self):
        self.assertEqual(show("a:0-2 ~2 b:4-8 ~3 a:9-5"), alone("a", 0) + [
            (("a", 1, 2, 3), ("b", 4, 1, 3)),
            (("a", 2, 1, 3), ("b", 5, 2, 3)),
            (("b", 6, 3, 4), ("a", 9, 1, 4)),
            (("b", 7, 2, 4), ("a", 8, 2, 4)),
            (("b", 8, 1, 4), ("a", 7, 3, 4))] + alone("a", 6, 5))

    def test_all_is_faded(self):
        self.assertEqual(show("a:0-1 ~2 b:1-0"), [
            (("a", 0, 2, 3), ("b", 1, 1, 3)), (("a", 1, 1, 3), ("b", 0, 2, 3))])
        self.assertEqual(show("a:3 ~1 a:3"), [(("a", 3, 1, 2), ("a", 3, 1, 2))])

    def test_of_unlike_clips_one_behind_the_other(self):
        self.assertEqual(show("a:3 ~1 b:0-1 ~1 a:8"), [
            (("a", 3, 1, 2), ("b", 0, 1, 2)), (("b", 1, 1, 2), ("a", 8, 1, 2))])

    def test_within_one_reel(self):
        self.assertEqual(show("a:0-2 ~1 a:3-4"), alone("a", 0, 1) + [
            (("a", 2, 1, 2), ("a", 3, 1, 2))] + alone("a", 4))

    def test_turned_about(self):
        """The other way round, the light of each frame is the same and the one that comes goes."""
        parts = parts_of(x="a:0-9 ~4 b:0-9 ~2 b:9-3 a:5 a:6-9")
        there = show("x", parts)
        back = show("-( x )", parts)
        self.assertEqual(back, [moment[::-1] for moment in there[::-1]])


class Lengths(unittest.TestCase):
    def test_clips_less_fades(self):
        for text, many in (("a:3", 1), ("a:3-6", 4), ("a:6-3", 4), ("a:0-9 b:0-9", 20), ("a:0-9 ~3 b:0-9", 17),
                           ("a:0-4 ~5 b:4-0", 5), ("a:0-9 ~3 b:0-9 ~7 a:9-0", 20), ("3*( a:0-9 ~3 b:0-9 ) ~1 a:5", 51)):
            with self.subTest(text):
                self.assertEqual(length(played(read_list(text), {}, REELS)), many)
                self.assertEqual(len(show(text)), many)

    def test_the_longest(self):
        self.assertEqual(length([("long", 1999, 0, 0)]), 2000)
        self.assertEqual(len(shown([("long", 1999, 0, 0)])), 2000)
        self.assertEqual(length([("a", 0, 19, 0)] + [("b", 19, 0, 10)] * 99), 1010)
        self.assertEqual(len(shown([("a", 0, 19, 0)] + [("b", 19, 0, 10)] * 99)), 1010)


class ManyFilms(unittest.TestCase):
    def test_each(self):
        chance = random.Random(15)
        fades = 0
        for _ in range(2000):
            clips = drawn_clips(chance, 6, 8)
            fades += sum(clip[3] > 0 for clip in clips)
            self.assertEqual(shown(clips), by_moments(clips), clips)
            self.assertEqual(length(clips), len(by_moments(clips)), clips)
        self.assertGreater(fades, 1000)


class HandedIn(unittest.TestCase):
    def test_all_stays(self):
        clips = [("a", 0, 9, 0), ("b", 9, 0, 4), ("a", 3, 3, 0)]
        before = copy.deepcopy(clips)
        shown(clips)
        length(clips)
        self.assertEqual(clips, before)

    def test_the_list_told_is_a_new_one(self):
        clips = [("a", 0, 1, 0), ("b", 9, 8, 1)]
        first = shown(clips)
        before = list(first)
        first.clear()
        self.assertEqual(shown(clips), before)
        told = shown(clips)
        clips.clear()
        self.assertEqual(told, before)
        self.assertEqual(shown(clips), [])

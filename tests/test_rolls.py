"""Points 23, 24 and 25, and point 4 of them: the two rolls and what they show."""

import copy
import itertools
import random
import unittest

from leadersplice.errors import TooShort
from leadersplice.listtexts import read_list
from leadersplice.played import played
from leadersplice.rolls import roll_shows, rolls
from leadersplice.shown import length, shown
from leadersplice.strips import frames_of, strips_of
from tests.helper import drawn_clips, drawn_cutting, refusal_of

REELS = [("a", "AB", 100, 60), ("b", "AB", 0, 60), ("long", "LL", 0, 5000)]


def cut(text):
    return strips_of(played(read_list(text), {}, REELS))


def moments_of(strips):
    """For each strip the moments at which its frames are seen, counted one by one."""
    rows = []
    film = []
    for strip in strips:
        # The last frames so far, as many as the FADE, are seen with the first ones of this strip.
        moment = film[-1] + 1 if film else 0
        moment -= strip[3]
        row = []
        for _ in frames_of(strip):
            row.append(moment)
            moment += 1
        film += row
        rows.append(row)
    return rows


def first_too_short(strips, leader):
    rows = moments_of(strips)
    for number in range(len(strips) - 2):
        if rows[number + 2][0] - rows[number][-1] - 1 < leader:
            return number + 1
    return None


def plain_rolls(strips, many):
    """What both rolls show, written moment by moment to the places of two rows."""
    both = ([None] * many, [None] * many)
    for number, row in enumerate(moments_of(strips)):
        for moment, frame in zip(row, frames_of(strips[number])):
            both[number % 2][moment] = (strips[number][0], frame)
    return both


class RollsTest(unittest.TestCase):
    def assert_good(self, strips, clips, leader):
        """All that points 23 to 25 ask of rolls that can be laid."""
        both = rolls(strips, leader)
        self.assertIs(type(both), tuple)
        self.assertEqual([type(roll) for roll in both], [list, list])
        for first, roll in enumerate(both):
            for thing in roll:
                self.assertIs(type(thing), tuple)
            self.assertEqual([thing[1] for thing in roll if thing[0] == "strip"],
                             list(range(first, len(strips), 2)))
            self.assertEqual([thing for thing in roll if thing[0] != "strip" and thing[1] < 1], [])
            for ahead, after in zip(roll, roll[1:]):
                self.assertIn("strip", (ahead[0], after[0]), (strips, leader, roll))
            between = roll[1:-1]
            for here, thing in enumerate(between):
                if thing[0] == "leader":
                    self.assertGreaterEqual(thing[1], leader, (strips, leader, roll, here))
        moments = [roll_shows(strips, roll) for roll in both]
        self.assertEqual(tuple(moments), plain_rolls(strips, length(clips)), (strips, leader))
        told = shown(clips)
        self.assertEqual([len(row) for row in moments], [len(told)] * 2)
        for one, other, frames in zip(moments[0], moments[1], told):
            seen = [frame for frame in (one, other) if frame is not None]
            self.assertEqual(sorted(seen), sorted(frame[:2] for frame in frames), (strips, leader))


class Few(RollsTest):
    def test_none(self):
        for leader in (0, 1, 500):
            self.assertEqual(rolls([], leader), ([], []))

    def test_one(self):
        for leader in (0, 1, 500):
            self.assertEqual(rolls(cut("a:5"), leader), ([("strip", 0)], [("leader", 1)]))
            self.assertEqual(rolls(cut("a:9-0"), leader), ([("strip", 0)], [("leader", 10)]))

    def test_two(self):
        for leader in (0, 1, 500):
            self.assertEqual(rolls(cut("a:0-9 b:0-4"), leader), (
                [("strip", 0), ("leader", 5)], [("leader", 10), ("strip", 1)]))

    def test_two_with_a_fade(self):
        self.assertEqual(rolls(cut("a:0-9 ~1 b:0-4"), 500), (
            [("strip", 0), ("leader", 4)], [("leader", 9), ("strip", 1)]))
        self.assertEqual(rolls(cut("a:0-9 ~3 b:4-0"), 500), (
            [("strip", 0), ("leader", 2)], [("leader", 7), ("strip", 1)]))

    def test_a_fade_of_a_whole_clip(self):
        self.assertEqual(rolls(cut("a:0-4 ~5 b:0-9"), 0), (
            [("strip", 0), ("leader", 5)], [("strip", 1)]))
        self.assertEqual(rolls(cut("a:0-9 ~5 b:0-4"), 0), (
            [("strip", 0)], [("leader", 5), ("strip", 1)]))
        self.assertEqual(rolls(cut("a:0-4 ~5 b:0-4"), 0), ([("strip", 0)], [("strip", 1)]))
        self.assertEqual(rolls(cut("a:7 ~1 a:7"), 0), ([("strip", 0)], [("strip", 1)]))

    def test_three_and_four(self):
        self.assertEqual(rolls(cut("a:0-2 b:0-4 a:9-3"), 0), (
            [("strip", 0), ("leader", 5), ("strip", 2)], [("leader", 3), ("strip", 1), ("leader", 7)]))
        self.assertEqual(rolls(cut("a:0-2 ~2 b:0-4 ~1 a:9-3 b:1"), 2), (
            [("strip", 0), ("leader", 2), ("strip", 2), ("leader", 1)],
            [("leader", 1), ("strip", 1), ("leader", 6), ("strip", 3)]))

    def test_many(self):
        strips = cut("20*( a:0-9 b:5 )")
        both = rolls(strips, 1)
        self.assertEqual(len(strips), 40)
        self.assertEqual(both[0], [thing for k in range(0, 40, 2) for thing in (("strip", k), ("leader", 1))])
        self.assertEqual(both[1], [thing for k in range(1, 40, 2) for thing in (("leader", 10), ("strip", k))])


class Leader(RollsTest):
    def assert_most(self, text, number, most):
        """That many frames of leader can be had, and one more not, for the strip with this number."""
        clips = played(read_list(text), {}, REELS)
        strips = strips_of(clips)
        for leader in {0, most // 2, most}:
            self.assert_good(strips, clips, leader)
        self.assertEqual(refusal_of(rolls, strips, most + 1), ("TooShort", number), text)
        self.assertEqual(refusal_of(rolls, strips, most + 500), ("TooShort", number), text)

    def test_just_enough_and_one_too_many(self):
        self.assert_most("a:0-2 b:0-4 a:9-3", 1, 5)
        self.assert_most("a:0-2 b:5 a:9-3", 1, 1)
        self.assert_most("a:0-2 ~1 b:0-4 a:9-3", 1, 4)
        self.assert_most("a:0-2 b:0-4 ~1 a:9-3", 1, 4)
        self.assert_most("a:0-2 ~2 b:0-4 ~2 a:9-3", 1, 1)
        self.assert_most("a:0-2 ~2 b:0-4 ~3 a:9-3", 1, 0)
        self.assert_most("long:0-9 long:500-999 long:0-9", 1, 500)
        self.assert_most("long:0-200 ~200 long:1000-1899 ~200 long:0-200", 1, 500)

    def test_with_none_two_strips_stand_beside_each_other(self):
        strips = cut("a:0-2 ~2 b:0-4 ~3 a:9-3")
        self.assertEqual(rolls(strips, 0), (
            [("strip", 0), ("strip", 2)], [("leader", 1), ("strip", 1), ("leader", 4)]))

    def test_the_first_one_that_lies_between(self):
        strips = cut("a:0-9 b:0-6 a:0-4 b:0-2 a:9-5")
        self.assertEqual(refusal_of(rolls, strips, 3), None)
        self.assertEqual(refusal_of(rolls, strips, 4), ("TooShort", 3))
        self.assertEqual(refusal_of(rolls, strips, 5), ("TooShort", 3))
        self.assertEqual(refusal_of(rolls, strips, 6), ("TooShort", 2))
        self.assertEqual(refusal_of(rolls, strips, 7), ("TooShort", 2))
        self.assertEqual(refusal_of(rolls, strips, 8), ("TooShort", 1))

    def test_the_first_and_the_last_strip_lie_between_none(self):
        strips = cut("a:5 b:0-19 a:5")
        self.assertEqual(rolls(strips, 20), (
            [("strip", 0), ("leader", 20), ("strip", 2)], [("leader", 1), ("strip", 1), ("leader", 1)]))

    def test_each_roll_is_looked_at(self):
        self.assertEqual(refusal_of(rolls, cut("a:0-9 b:0-9 a:5 b:0-9"), 2), ("TooShort", 2))
        self.assertEqual(refusal_of(rolls, cut("a:0-9 b:5 a:0-9 b:0-9"), 2), ("TooShort", 1))

    def test_the_error_bears_the_number(self):
        with self.assertRaises(TooShort) as caught:
            rolls(cut("a:0-9 b:5 a:0-9"), 2)
        self.assertEqual(caught.exception.number, 1)


class ShorterThanTheirFades(RollsTest):
    """Where the frames of one clip lie on two strips, one of them may have fewer frames than the fade has."""

    def test_the_begin_of_a_clip_that_comes(self):
        clips = [("a", 0, 9, 0), ("b", 0, 9, 5)]
        for first in range(0, 4):
            strips = [("a", 0, 9, 0), ("b", 0, first, 5), ("b", first + 1, 9, 0)]
            self.assertEqual(refusal_of(rolls, strips, 0), ("TooShort", 1), strips)
        self.assert_good([("a", 0, 9, 0), ("b", 0, 4, 5), ("b", 5, 9, 0)], clips, 0)
        self.assertEqual(refusal_of(rolls, [("a", 0, 9, 0), ("b", 0, 4, 5), ("b", 5, 9, 0)], 1), ("TooShort", 1))
        self.assert_good([("a", 0, 9, 0), ("b", 0, 5, 5), ("b", 6, 9, 0)], clips, 1)

    def test_the_end_of_a_clip_that_goes(self):
        clips = [("a", 0, 9, 0), ("b", 0, 9, 5)]
        for last in range(6, 10):
            strips = [("a", 0, last - 1, 0), ("a", last, 9, 0), ("b", 0, 9, 5)]
            self.assertEqual(refusal_of(rolls, strips, 0), ("TooShort", 1), strips)
        self.assert_good([("a", 0, 4, 0), ("a", 5, 9, 0), ("b", 0, 9, 5)], clips, 0)

    def test_as_the_least_cutting_has_it(self):
        """The frame b:4 goes to the strip of b:5 that is ahead of it, so the clip b:4-9 lies on two strips."""
        clips = played(read_list("a:0-9 ~1 b:5 b:4-9 ~2 a:9-0"), {}, REELS)
        strips = strips_of(clips)
        self.assertEqual(strips, [("a", 0, 9, 0), ("b", 5, 4, 1), ("b", 5, 9, 0), ("a", 9, 0, 2)])
        self.assert_good(strips, clips, 1)
        self.assertEqual(refusal_of(rolls, strips, 2), ("TooShort", 1))
        clips = played(read_list("a:0-9 b:5 b:4-5 ~2 a:9-0"), {}, REELS)
        self.assertEqual(strips_of(clips), [("a", 0, 9, 0), ("b", 5, 4, 0), ("b", 5, 5, 0), ("a", 9, 0, 2)])
        self.assertEqual(refusal_of(rolls, strips_of(clips), 0), ("TooShort", 2))


class Shows(RollsTest):
    STRIPS = [("a", 3, 5, 0), ("b", 9, 8, 1)]

    def test_nothing(self):
        self.assertEqual(roll_shows([], []), [])
        self.assertEqual(roll_shows(self.STRIPS, []), [])

    def test_frames_and_leaders(self):
        self.assertEqual(roll_shows(self.STRIPS, [("strip", 0), ("leader", 1)]), [("a", 3), ("a", 4), ("a", 5), None])
        self.assertEqual(roll_shows(self.STRIPS, [("leader", 2), ("strip", 1)]), [None, None, ("b", 9), ("b", 8)])
        self.assertEqual(roll_shows(self.STRIPS, [("strip", 1), ("strip", 0)]), [
            ("b", 9), ("b", 8), ("a", 3), ("a", 4), ("a", 5)])
        self.assertEqual(roll_shows(self.STRIPS, [("leader", 3)]), [None] * 3)

    def test_of_a_fade_each_roll_shows_one_frame(self):
        both = rolls(self.STRIPS, 0)
        self.assertEqual([roll_shows(self.STRIPS, roll) for roll in both], [
            [("a", 3), ("a", 4), ("a", 5), None], [None, None, ("b", 9), ("b", 8)]])

    def test_kinds(self):
        told = roll_shows(self.STRIPS, [("strip", 1), ("leader", 1)])
        self.assertIs(type(told), list)
        self.assertEqual([type(moment) for moment in told], [tuple, tuple, type(None)])


class ManyFilms(RollsTest):
    def test_least_cuttings(self):
        chance = random.Random(24)
        self.compare(chance, lambda clips: strips_of(clips), 1500)

    def test_any_cuttings(self):
        chance = random.Random(25)
        self.compare(chance, lambda clips: drawn_cutting(chance, clips), 1500)

    def compare(self, chance, cutting, many):
        laid = refused = 0
        for _ in range(many):
            clips = drawn_clips(chance, 6, chance.choice((4, 12, 40)))
            strips = cutting(clips)
            leader = chance.choice((0, 0, 0, 1, 2, 5))
            number = first_too_short(strips, leader)
            if number is None:
                self.assert_good(strips, clips, leader)
                laid += 1
            else:
                self.assertEqual(refusal_of(rolls, strips, leader), ("TooShort", number), (strips, leader))
                refused += 1
        self.assertGreater(min(laid, refused), many // 10)

    def test_there_are_no_others(self):
        """Of all ways of putting strips to two rolls, those with no two neighbours together are these, exchanged."""
        chance = random.Random(26)
        for _ in range(100):
            clips = drawn_clips(chance, 6, 12)
            strips = strips_of(clips)
            if first_too_short(strips, 0) is not None:
                continue
            both = rolls(strips, 0)
            told = [0 if ("strip", number) in both[0] else 1 for number in range(len(strips))]
            ways = [list(way) for way in itertools.product((0, 1), repeat=len(strips))
                    if all(one != other for one, other in zip(way, way[1:]))]
            self.assertEqual(sorted(ways), sorted([told, [1 - side for side in told]]))


class HandedIn(RollsTest):
    def test_all_stays(self):
        strips = cut("a:0-2 ~2 b:0-4 ~1 a:9-3 b:1")
        roll = [("leader", 3), ("strip", 1)]
        before = copy.deepcopy((strips, roll))
        rolls(strips, 1)
        refusal_of(rolls, strips, 500)
        roll_shows(strips, roll)
        self.assertEqual((strips, roll), before)

    def test_what_is_told_is_new(self):
        strips = cut("a:0-2 ~2 b:0-4 ~1 a:9-3 b:1")
        told = rolls(strips, 1)
        before = copy.deepcopy(told)
        shows = roll_shows(strips, told[0])
        shows_before = list(shows)
        told[0].clear()
        told[1].append(("leader", 9))
        shows.clear()
        self.assertEqual(rolls(strips, 1), before)
        self.assertEqual(roll_shows(strips, before[0]), shows_before)
        kept = rolls(strips, 1)
        shows = roll_shows(strips, kept[0])
        strips.clear()
        self.assertEqual((kept, shows), (before, shows_before))

    def test_the_two_rolls_are_not_one_list(self):
        told = rolls([], 0)
        told[0].append(("leader", 1))
        self.assertEqual(told[1], [])
        self.assertEqual(rolls([], 0), ([], []))

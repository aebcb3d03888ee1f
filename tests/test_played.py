"""Point 13, with 8, 11 and 12: what a list plays."""

import copy
import random
import unittest

from leadersplice.errors import TooMany, TooShort
from leadersplice.listtexts import read_list, show_list
from leadersplice.played import played
from tests.helper import parts_of, refusal_of

REELS = [("a", "AB", 100, 50), ("b", "AB", 0, 10), ("c", "ZZ", 159999, 1), ("long", "LL", 0, 160000)]
NAMES = "abcdefghijkl"


def play(text, parts=None, reels=REELS):
    return played(read_list(text), parts or {}, reels)


def rows(items, parts):
    """All clips and fades in the order in which they are seen, one by one."""
    row = []
    for item in items:
        if item[0] == "part":
            row += rows(parts[item[1]], parts)
        elif item[0] == "times":
            for _ in range(item[1]):
                row += rows(item[2], parts)
        elif item[0] == "back":
            row += [thing[:2] + thing[:1:-1] if thing[0] == "clip" else thing for thing in rows(item[1], parts)[::-1]]
        else:
            row.append(item)
    return row


def due(items, parts):
    row = [("start",)] + rows(items, parts)
    clips = []
    for ahead, thing in zip(row, row[1:]):
        if thing[0] == "clip":
            clips.append(thing[1:] + (ahead[1] if ahead[0] == "fade" else 0,))
    lengths = [len(range(min(clip[1:3]), max(clip[1:3]) + 1)) for clip in clips]
    if len(clips) > 100 or sum(lengths) > 2000:
        return ("TooMany",)
    for number, many in enumerate(lengths):
        if many < sum(clip[3] for clip in clips[number:number + 2]):
            return ("TooShort", number)
    return clips


def random_items(chance, room, names):
    items = []
    for _ in range(chance.randint(1, 3)):
        if items and chance.random() < 0.4:
            items.append(("fade", chance.randint(1, 3)))
        kind = chance.choice(("clip", "clip", "part", "times", "back") if room else ("clip",))
        if kind == "clip":
            first = chance.randint(0, 49)
            items.append((kind, "a", first, chance.choice((49 - first, 49 - first, 49 - first, first, 25))))
        elif kind == "part":
            items.append((kind, chance.choice(names)))
        elif kind == "times":
            items.append((kind, chance.randint(1, 4), random_items(chance, room - 1, names)))
        else:
            items.append((kind, random_items(chance, room - 1, names)))
    return tuple(items)


class Clips(unittest.TestCase):
    def test_one(self):
        self.assertEqual(play("a:3"), [("a", 3, 3, 0)])
        self.assertEqual(play("a:3-9"), [("a", 3, 9, 0)])
        self.assertEqual(play("a:9-3"), [("a", 9, 3, 0)])
        self.assertEqual(play("c:0"), [("c", 0, 0, 0)])

    def test_kinds(self):
        told = play("a:3-9 ~2 2*( b:1-5 )")
        self.assertIs(type(told), list)
        for clip in told:
            self.assertIs(type(clip), tuple)
            self.assertEqual([type(thing) for thing in clip], [str, int, int, int])

    def test_one_behind_the_other(self):
        self.assertEqual(play("a:3 a:4 a:5-7 a:7-3 b:1"), [
            ("a", 3, 3, 0), ("a", 4, 4, 0), ("a", 5, 7, 0), ("a", 7, 3, 0), ("b", 1, 1, 0)])

    def test_fades(self):
        self.assertEqual(play("a:0-9 ~4 b:0-9 ~3 a:9-0 b:1"), [
            ("a", 0, 9, 0), ("b", 0, 9, 4), ("a", 9, 0, 3), ("b", 1, 1, 0)])


class Times(unittest.TestCase):
    def test_rounds(self):
        self.assertEqual(play("1*( a:1-2 )"), [("a", 1, 2, 0)])
        self.assertEqual(play("3*( a:1-2 )"), [("a", 1, 2, 0)] * 3)
        self.assertEqual(play("2*( a:1-2 b:3 )"), [("a", 1, 2, 0), ("b", 3, 3, 0)] * 2)
        self.assertEqual(play("2*( a:1 3*( b:3 ) )"), [("a", 1, 1, 0), ("b", 3, 3, 0), ("b", 3, 3, 0), ("b", 3, 3, 0)] * 2)

    def test_fades_within_stand_in_each_round_and_none_between(self):
        self.assertEqual(play("3*( a:0-9 ~2 b:0-9 )"), [("a", 0, 9, 0), ("b", 0, 9, 2)] * 3)

    def test_a_fade_ahead_is_that_of_the_first_round(self):
        self.assertEqual(play("b:0-5 ~2 3*( a:0-9 )"), [
            ("b", 0, 5, 0), ("a", 0, 9, 2), ("a", 0, 9, 0), ("a", 0, 9, 0)])

    def test_a_fade_behind_is_that_of_the_last_round(self):
        self.assertEqual(play("3*( a:0-9 ) ~2 b:0-5"), [
            ("a", 0, 9, 0), ("a", 0, 9, 0), ("a", 0, 9, 0), ("b", 0, 5, 2)])

    def test_a_fade_between_two_of_them(self):
        self.assertEqual(play("2*( a:0-9 ) ~2 2*( b:0-5 )"), [
            ("a", 0, 9, 0), ("a", 0, 9, 0), ("b", 0, 5, 2), ("b", 0, 5, 0)])


class Backs(unittest.TestCase):
    def test_turned_about(self):
        self.assertEqual(play("-( a:1-5 )"), [("a", 5, 1, 0)])
        self.assertEqual(play("-( a:5-1 b:3 )"), [("b", 3, 3, 0), ("a", 1, 5, 0)])
        self.assertEqual(play("-( -( a:5-1 b:3 ) )"), [("a", 5, 1, 0), ("b", 3, 3, 0)])

    def test_fades_between_the_same_two(self):
        self.assertEqual(play("-( a:0-9 ~2 b:0-9 a:3 )"), [("a", 3, 3, 0), ("b", 9, 0, 0), ("a", 9, 0, 2)])
        self.assertEqual(play("-( a:0-9 ~2 b:0-9 ~5 a:10-19 )"), [("a", 19, 10, 0), ("b", 9, 0, 5), ("a", 9, 0, 2)])

    def test_fades_around(self):
        self.assertEqual(play("a:20-29 ~3 -( a:0-9 ~2 b:0-9 ) ~4 a:30-39"), [
            ("a", 20, 29, 0), ("b", 9, 0, 3), ("a", 9, 0, 2), ("a", 30, 39, 4)])

    def test_around_times(self):
        self.assertEqual(play("-( b:1-3 ~1 2*( a:0-9 ~2 b:0-9 ) )"), [
            ("b", 9, 0, 0), ("a", 9, 0, 2), ("b", 9, 0, 0), ("a", 9, 0, 2), ("b", 3, 1, 1)])

    def test_within_times(self):
        self.assertEqual(play("2*( -( a:0-9 ~2 b:0-9 ) )"), [("b", 9, 0, 0), ("a", 9, 0, 2)] * 2)

    def test_back_within_back(self):
        self.assertEqual(play("-( a:0-9 ~1 -( b:0-9 ~2 a:30-39 ) ~3 b:1-4 )"), [
            ("b", 4, 1, 0), ("b", 0, 9, 3), ("a", 30, 39, 2), ("a", 9, 0, 1)])


class Parts(unittest.TestCase):
    def test_where_they_stand(self):
        parts = parts_of(x="a:1-2 b:3", y="x a:7")
        self.assertEqual(play("x", parts), [("a", 1, 2, 0), ("b", 3, 3, 0)])
        self.assertEqual(play("y b:1 x", parts), [
            ("a", 1, 2, 0), ("b", 3, 3, 0), ("a", 7, 7, 0), ("b", 1, 1, 0), ("a", 1, 2, 0), ("b", 3, 3, 0)])
        self.assertEqual(play("-( y )", parts), [("a", 7, 7, 0), ("b", 3, 3, 0), ("a", 2, 1, 0)])

    def test_fades(self):
        parts = parts_of(x="a:0-9 ~2 b:0-9")
        self.assertEqual(play("x ~3 x ~4 -( x ) 2*( x ) ~5 a:40-49", parts), [
            ("a", 0, 9, 0), ("b", 0, 9, 2), ("a", 0, 9, 3), ("b", 0, 9, 2), ("b", 9, 0, 4), ("a", 9, 0, 2),
            ("a", 0, 9, 0), ("b", 0, 9, 2), ("a", 0, 9, 0), ("b", 0, 9, 2), ("a", 40, 49, 5)])


class Bounds(unittest.TestCase):
    def assert_too_many(self, text, parts=None):
        with self.subTest(text):
            self.assertEqual(refusal_of(play, text, parts), ("TooMany",))

    def test_a_hundred_clips(self):
        self.assertEqual(play(" ".join(["a:3"] * 100)), [("a", 3, 3, 0)] * 100)
        self.assertEqual(play("10*( 10*( a:3 ) )"), [("a", 3, 3, 0)] * 100)
        self.assertEqual(play("20*( 5*( a:3 ) )"), [("a", 3, 3, 0)] * 100)
        self.assertEqual(play("-( 11*( 9*( a:3 ) ) b:4 )"), [("b", 4, 4, 0)] + [("a", 3, 3, 0)] * 99)
        self.assertEqual(play("x x", parts_of(x="5*( y )", y="10*( c:0 )")), [("c", 0, 0, 0)] * 100)

    def test_a_hundred_clips_and_one(self):
        self.assert_too_many(" ".join(["a:3"] * 101))
        self.assert_too_many("10*( 10*( a:3 ) ) b:4")
        self.assert_too_many("b:4 10*( 10*( a:3 ) )")
        self.assert_too_many("-( b:4 10*( 10*( a:3 ) ) )")
        self.assert_too_many("101*( a:3 )")
        self.assert_too_many("x x c:0", parts_of(x="5*( y )", y="10*( c:0 )"))

    def test_two_thousand_frames(self):
        self.assertEqual(play("long:0-1999"), [("long", 0, 1999, 0)])
        self.assertEqual(play("long:1999-0"), [("long", 1999, 0, 0)])
        self.assertEqual(play("long:159999-158000"), [("long", 159999, 158000, 0)])
        self.assertEqual(play("20*( long:0-98 ) long:0-19"), [("long", 0, 98, 0)] * 20 + [("long", 0, 19, 0)])
        self.assertEqual(len(play("20*( 5*( a:0-19 ) )")), 100)

    def test_two_thousand_frames_and_one(self):
        self.assert_too_many("long:0-2000")
        self.assert_too_many("long:2000-0")
        self.assert_too_many("long:0-159999")
        self.assert_too_many("long:0-1999 c:0")
        self.assert_too_many("c:0 -( long:0-1999 )")
        self.assert_too_many("20*( long:0-98 ) long:0-20")
        self.assert_too_many("20*( 5*( a:0-19 ) ) b:0")
        self.assert_too_many("x x", parts_of(x="long:0-1000"))

    def test_frames_that_fade_count_twice(self):
        self.assertEqual(len(play("long:0-999 ~200 long:0-999")), 2)
        self.assert_too_many("long:0-999 ~200 long:0-1000")

    def test_times_within_times(self):
        text = "a:3"
        for depth in range(16):
            text = f"20*( {text} )"
            if depth > 0:
                self.assert_too_many(text)
                self.assert_too_many(f"b:0 ~1 {text} ~1 b:0")
                self.assert_too_many(f"-( {text} )")
        self.assert_too_many("999999999*( 999999999*( a:3 ) )")

    def test_parts_that_lead_to_one_another(self):
        for many in (2, 16):
            parts = {NAMES[k]: (("part", NAMES[k + 1]),) * many for k in range(11)}
            parts["l"] = (("clip", "a", 0, 1),) * many
            self.assert_too_many("a", parts)
            self.assert_too_many("-( 20*( a ) ) ~1 c:0", parts)

    def test_parts_and_times(self):
        parts = {NAMES[k]: (("times", 20, (("part", NAMES[k + 1]),)),) for k in range(11)}
        parts["l"] = read_list("20*( a:0-49 )")
        self.assert_too_many("20*( a )", parts)

    def test_long_behind_few(self):
        """All that is played once counts, however far behind it stands."""
        self.assert_too_many("99*( c:0 ) 2*( 20*( 20*( c:0 ) ) )")
        self.assert_too_many("99*( c:0 ) c:0 c:0")

    def test_refused_as_in_ten_ahead_of_it(self):
        huge = "20*( 20*( 20*( 20*( a:0-49 ) ) ) )"
        for fault, told in (("d:0", ("NoName", "d")), ("a:50", ("NoFrame", "a", 50)), ("~1", ("NoFade",)),
                            ("x", ("NoName", "x")), ("y", ("NoName", "y"))):
            for text in (f"{huge} {fault}", f"{fault} {huge}", f"-( {huge} 2*( {huge} {fault} ) )",
                         f"long:0-2000 {fault}"):
                with self.subTest(text):
                    self.assertEqual(refusal_of(play, text, parts_of(y="20*( y )")), told)

    def test_ahead_of_too_short(self):
        self.assert_too_many("c:0 ~2 c:0 long:0-2000")
        self.assert_too_many("c:0 ~2 c:0 101*( c:0 )")


class Short(unittest.TestCase):
    def assert_too_short(self, text, number, parts=None):
        with self.subTest(text):
            self.assertEqual(refusal_of(play, text, parts), ("TooShort", number))

    def test_just_long_enough(self):
        self.assertEqual(play("a:0-4 ~5 b:0-4"), [("a", 0, 4, 0), ("b", 0, 4, 5)])
        self.assertEqual(play("c:0 ~1 c:0"), [("c", 0, 0, 0), ("c", 0, 0, 1)])
        self.assertEqual(play("a:0-1 ~2 a:9-5 ~3 b:0-2"), [("a", 0, 1, 0), ("a", 9, 5, 2), ("b", 0, 2, 3)])

    def test_one_frame_too_few(self):
        self.assert_too_short("a:0-3 ~5 b:0-4", 0)
        self.assert_too_short("a:0-4 ~5 b:0-3", 1)
        self.assert_too_short("a:3-0 ~5 b:0-4", 0)
        self.assert_too_short("a:0-4 ~5 b:3-0", 1)
        self.assert_too_short("a:0-1 ~2 a:9-6 ~3 b:0-2", 1)
        self.assert_too_short("c:0 ~1 c:0 ~1 c:0", 1)
        self.assert_too_short("c:0 c:0 ~2 b:0-9", 1)

    def test_the_first_is_told(self):
        self.assert_too_short("b:0-9 ~1 a:0-1 ~2 a:0-2 ~2 b:0-9", 1)
        self.assert_too_short("b:0-9 ~2 a:0 ~2 a:0 ~2 b:0", 1)
        self.assert_too_short("b:0-9 ~200 a:0-9", 0)

    def test_numbers_are_those_of_what_is_played(self):
        self.assert_too_short("10*( c:0 ) ~2 b:0-9", 9)
        self.assert_too_short("10*( c:0 ) b:0-9 ~2 10*( c:0 )", 11)
        self.assert_too_short("b:0 x", 3, parts_of(x="2*( b:0-9 ) ~2 c:0"))
        self.assert_too_short("b:0 -( x )", 1, parts_of(x="2*( b:0-9 ) ~2 c:0"))
        self.assert_too_short("-( a:0-4 ~5 b:0-3 a:1 )", 1)
        self.assert_too_short("99*( c:0 ) ~2 b:0-9", 98)

    def test_fades_at_both_ends_of_a_list_within(self):
        self.assert_too_short("b:0-9 ~2 -( a:1-3 ) ~2 b:0-9", 1)
        self.assertEqual(len(play("b:0-9 ~2 2*( a:1-3 ) ~2 b:0-9")), 4)

    def test_refused_as_in_ten_ahead_of_it(self):
        self.assertEqual(refusal_of(play, "c:0 ~2 c:0 d:0"), ("NoName", "d"))
        self.assertEqual(refusal_of(play, "c:0 ~2 c:0 ~1"), ("NoFade",))

    def test_classes(self):
        self.assertRaises(TooShort, play, "c:0 ~2 c:0")
        self.assertRaises(TooMany, play, "101*( c:0 )")


class ManyLists(unittest.TestCase):
    def test_each(self):
        chance = random.Random(13)
        counts = {"played": 0, "TooMany": 0, "TooShort": 0}
        for _ in range(3000):
            parts = {"x": random_items(chance, 0, "x")}
            parts["y"] = random_items(chance, 2, "x")
            items = random_items(chance, 3, "xy")
            told = due(items, parts)
            if isinstance(told, list):
                counts["played"] += 1
                self.assertEqual(played(items, parts, REELS), told, show_list(items))
            else:
                counts[told[0]] += 1
                self.assertEqual(refusal_of(played, items, parts, REELS), told, show_list(items))
        self.assertGreater(min(counts.values()), 100)


class HandedIn(unittest.TestCase):
    def test_all_stays(self):
        parts = parts_of(x="a:0-9 ~2 b:0-9", y="-( x )")
        reels = list(REELS)
        items = read_list("x 2*( y )")
        before = copy.deepcopy((items, parts, reels))
        played(items, parts, reels)
        self.assertRaises(TooMany, played, items + (("times", 200, items),), parts, reels)
        self.assertEqual((items, parts, reels), before)
        self.assertEqual(list(parts), ["x", "y"])

    def test_the_list_told_is_a_new_one(self):
        parts = parts_of(x="a:0-9 ~2 b:0-9")
        for text in ("a:3", "x", "1*( x )", "-( x )", "x x"):
            first = play(text, parts)
            before = list(first)
            second = play(text, parts)
            self.assertIsNot(first, second)
            first.clear()
            second.append(None)
            self.assertEqual(play(text, parts), before)

    def test_later_changes_do_not_reach_what_was_told(self):
        parts = parts_of(x="a:0-9")
        reels = list(REELS)
        told = played(read_list("x"), parts, reels)
        parts["x"] = read_list("b:1")
        reels.clear()
        self.assertEqual(told, [("a", 0, 9, 0)])
        self.assertEqual(play("x", parts), [("b", 1, 1, 0)])

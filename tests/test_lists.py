"""Points 10 to 12: what a list is refused for, and lists turned about."""

import copy
import random
import unittest

from leadersplice.errors import NoFade, NoFrame, NoName
from leadersplice.listtexts import read_list, show_list
from leadersplice.lists import sound, turned
from leadersplice.played import played
from tests.helper import parts_of, refusal_of

REELS = [("a", "AB", 100, 50), ("b", "AB", 0, 10), ("c", "ZZ", 159999, 1)]
NONE = {}


def faults(items, parts, reels, path):
    """Each fault in the order of point 10, every part gone into wherever it stands."""
    frames = {reel[0]: reel[3] for reel in reels}
    for place, item in enumerate(items):
        if item[0] == "clip" and item[1] not in frames:
            yield ("NoName", item[1])
        elif item[0] == "clip":
            yield from [("NoFrame", item[1], frame) for frame in item[2:] if frame >= frames[item[1]]]
        elif item[0] == "fade":
            around = [items[k][0] if 0 <= k < len(items) else "end" for k in (place - 1, place + 1)]
            yield from [("NoFade",) for kind in around if kind in ("end", "fade")]
        elif item[0] == "part" and (item[1] not in parts or item[1] in path):
            yield ("NoName", item[1])
        elif item[0] == "part":
            yield from faults(parts[item[1]], parts, reels, path + (item[1],))
        else:
            yield from faults(item[-1], parts, reels, path)


def random_items(chance, room, names, faulty):
    """A list with few clips; where faulty, now and then with something wrong in it."""
    items = []
    for _ in range(chance.randint(1, 3)):
        if items and chance.random() < 0.3:
            items.append(("fade", 1))
        kind = chance.choice(("clip", "clip", "part", "times", "back") if room else ("clip",))
        if kind == "clip":
            reel = chance.choice("abx" if faulty and chance.random() < 0.1 else "ab")
            last = 11 if faulty and chance.random() < 0.1 else 9
            first = chance.randint(0, last)
            items.append((kind, reel, first, (first + 3) % 10 if not faulty else chance.randint(0, last)))
        elif kind == "part":
            items.append((kind, chance.choice(names)))
        elif kind == "times":
            items.append((kind, chance.randint(1, 3), random_items(chance, room - 1, names, faulty)))
        else:
            items.append((kind, random_items(chance, room - 1, names, faulty)))
        if faulty and chance.random() < 0.07:
            items.insert(chance.randint(0, len(items)), ("fade", 2))
    return tuple(items)


class Sound(unittest.TestCase):
    def assert_sound(self, text, parts=NONE, reels=REELS):
        items = read_list(text)
        with self.subTest(text):
            told = sound(items, parts, reels)
            self.assertEqual(told, items)
            self.assertIs(type(told), tuple)

    def test_clips(self):
        for text in ("a:0", "a:49", "a:0-49", "a:49-0", "b:9", "b:0-9", "b:9-0", "c:0", "c:0 b:3-4 a:7-1"):
            self.assert_sound(text)

    def test_fades_between(self):
        for text in ("a:0 ~1 b:0", "a:0 ~200 b:0 ~3 c:0", "-( a:0 ) ~1 2*( b:0 )", "a:0 ~1 -( a:0 ~1 b:0 ) ~1 c:0"):
            self.assert_sound(text)

    def test_how_long_it_is_does_not_matter(self):
        self.assert_sound("a:0 ~999999999 b:0")
        self.assert_sound("20*( 20*( 20*( 20*( a:0-49 ) ) ) )")

    def test_parts(self):
        parts = parts_of(x="a:0 ~1 y", y="b:0-9 z", z="c:0", unused="nowhere ~1")
        self.assert_sound("x", parts)
        self.assert_sound("z y x z y x", parts)
        self.assert_sound("2*( x ) ~1 -( y )", parts)

    def test_a_part_may_stand_twice(self):
        parts = parts_of(x="y y", y="z -( z )", z="2*( a:3 )")
        self.assert_sound("x x y z", parts)
        self.assert_sound("z z ~2 z 2*( z )", parts)

    def test_a_part_may_be_called_like_a_reel(self):
        self.assert_sound("a:3 a", parts_of(a="b:1 b", b="a:2"))

    def test_parts_that_are_not_played_are_not_looked_at(self):
        self.assert_sound("a:3", parts_of(x="x", y="~1", z="q:5 a:99"))

    def test_sixteen_deep(self):
        self.assert_sound("-( " * 16 + "a:3" + " )" * 16)
        parts = {"abcdefghijkl"[k]: (("part", "bcdefghijklm"[k]),) for k in range(11)}
        parts["l"] = read_list("-( -( -( b:3 ) ) )")
        self.assert_sound("a", parts)

    def test_parts_that_double_are_gone_through_once(self):
        names = "abcdefghijkl"
        parts = {names[k]: (("part", names[k + 1]),) * 16 for k in range(11)}
        parts["l"] = (("clip", "a", 0, 1),) * 16
        self.assert_sound(" ".join("a" * 16), parts)


class Refused(unittest.TestCase):
    def assert_refused(self, text, due, parts=NONE, reels=REELS):
        items = read_list(text)
        before = copy.deepcopy((parts, reels))
        with self.subTest(text):
            self.assertEqual(refusal_of(sound, items, parts, reels), due)
            self.assertEqual(refusal_of(played, items, parts, reels), due)
            self.assertEqual((parts, reels), before)

    def test_no_such_reel(self):
        for name in ("d", "aa", "ab", "zzzzzzzz"):
            self.assert_refused(f"{name}:0", ("NoName", name))
            self.assert_refused(f"a:0 -( b:0 2*( {name}:0 ) )", ("NoName", name))
        self.assert_refused("a:0", ("NoName", "a"), reels=[])

    def test_a_part_is_no_reel_and_a_reel_no_part(self):
        self.assert_refused("x:0", ("NoName", "x"), parts_of(x="a:0"))
        self.assert_refused("a", ("NoName", "a"))

    def test_no_such_frame(self):
        self.assert_refused("a:50", ("NoFrame", "a", 50))
        self.assert_refused("a:999999999", ("NoFrame", "a", 999999999))
        self.assert_refused("a:0-50", ("NoFrame", "a", 50))
        self.assert_refused("a:50-0", ("NoFrame", "a", 50))
        self.assert_refused("c:0-1", ("NoFrame", "c", 1))
        self.assert_refused("a:0 -( b:10-0 )", ("NoFrame", "b", 10))

    def test_first_ahead_of_last(self):
        self.assert_refused("a:60-70", ("NoFrame", "a", 60))
        self.assert_refused("a:70-60", ("NoFrame", "a", 70))
        self.assert_refused("a:49-60", ("NoFrame", "a", 60))

    def test_edge_numbers_are_no_frames(self):
        self.assert_refused("a:100", ("NoFrame", "a", 100))
        self.assert_refused("c:159999", ("NoFrame", "c", 159999))

    def test_name_ahead_of_frame(self):
        self.assert_refused("d:999999", ("NoName", "d"))

    def test_fades_at_an_end(self):
        for text in ("~1", "~1 a:0", "a:0 ~1", "-( ~1 )", "-( ~1 a:0 )", "-( a:0 ~1 )", "2*( ~1 a:0 )", "2*( a:0 ~1 )",
                     "a:0 -( ~1 b:0 )", "a:0 2*( ~1 b:0 )", "-( a:0 ~1 ) b:0", "2*( a:0 ~1 ) b:0", "a:0 -( ~1 ) b:0",
                     "a:0 ~1 b:0 ~1", "~1 a:0 ~1 b:0", "a:0 -( b:0 -( c:0 ~1 ) ) b:0"):
            self.assert_refused(text, ("NoFade",))

    def test_fades_beside_one_another(self):
        for text in ("a:0 ~1 ~1 b:0", "a:0 ~2 ~1 b:0", "-( a:0 ~1 ~1 b:0 )", "a:0 ~1 ~1 ~1 b:0"):
            self.assert_refused(text, ("NoFade",))

    def test_fades_at_an_end_of_a_part(self):
        for text in ("~1", "~1 a:0", "a:0 ~1", "-( a:0 ~1 )"):
            self.assert_refused("a:0 x b:0", ("NoFade",), parts_of(x=text))

    def test_no_such_part(self):
        self.assert_refused("x", ("NoName", "x"))
        self.assert_refused("x", ("NoName", "x"), parts_of(xx="a:0", y="a:0"))
        self.assert_refused("a:0 2*( b:0 -( x ) )", ("NoName", "x"))
        self.assert_refused("y", ("NoName", "x"), parts_of(y="a:0 x"))

    def test_a_fault_within_a_part(self):
        parts = parts_of(good="a:0", reel="good d:0", frame="good a:0-77", fade="good ~1", deep="good -( frame )")
        self.assert_refused("good reel", ("NoName", "d"), parts)
        self.assert_refused("good frame", ("NoFrame", "a", 77), parts)
        self.assert_refused("good fade", ("NoFade",), parts)
        self.assert_refused("good deep", ("NoFrame", "a", 77), parts)

    def test_a_part_that_leads_to_itself(self):
        self.assert_refused("x", ("NoName", "x"), parts_of(x="x"))
        self.assert_refused("a:0 x", ("NoName", "x"), parts_of(x="a:0 -( 2*( x ) )"))

    def test_parts_that_lead_to_one_another(self):
        parts = parts_of(x="a:0 y", y="b:0 z", z="c:0 x")
        self.assert_refused("x", ("NoName", "x"), parts)
        self.assert_refused("y", ("NoName", "y"), parts)
        self.assert_refused("z", ("NoName", "z"), parts)
        self.assert_refused("w", ("NoName", "x"), dict(parts, w=read_list("v x"), v=read_list("a:3")))
        self.assert_refused("p", ("NoName", "q"), parts_of(p="q", q="r", r="q p"))

    def test_what_stands_ahead_of_leading_to_itself(self):
        self.assert_refused("x", ("NoFrame", "a", 99), parts_of(x="a:99 x"))
        self.assert_refused("x", ("NoName", "x"), parts_of(x="x a:99"))
        self.assert_refused("x", ("NoFade",), parts_of(x="y", y="~1 x"))

    def test_the_first_item_decides(self):
        parts = parts_of(x="a:0 a:88", y="a:0 ~1", z="a:0 z")
        for text, due in (
            ("d:0 a:99 e:0", ("NoName", "d")),
            ("a:99 d:0", ("NoFrame", "a", 99)),
            ("~1 d:0", ("NoFade",)),
            ("d:0 ~1", ("NoName", "d")),
            ("a:99 ~1", ("NoFrame", "a", 99)),
            ("a:0 ~1 ~1 d:0", ("NoFade",)),
            ("a:0 ~1 d:0 ~1 ~1", ("NoName", "d")),
            ("-( d:0 ) ~1", ("NoName", "d")),
            ("-( ~1 ) d:0", ("NoFade",)),
            ("2*( a:0 -( b:77 ) ) d:0 ~1", ("NoFrame", "b", 77)),
            ("x y z d:0", ("NoFrame", "a", 88)),
            ("y x z d:0", ("NoFade",)),
            ("z y x d:0", ("NoName", "z")),
            ("d:0 z y x", ("NoName", "d")),
            ("a:99 nowhere", ("NoFrame", "a", 99)),
            ("nowhere a:99", ("NoName", "nowhere")),
            ("x ~1", ("NoFrame", "a", 88)),
            ("a:0 ~1 x", ("NoFrame", "a", 88)),
            ("~1 x", ("NoFade",)),
        ):
            self.assert_refused(text, due, parts)

    def test_faults_behind_parts_that_double(self):
        names = "abcdefghijkl"
        parts = {names[k]: (("part", names[k + 1]),) * 16 for k in range(11)}
        parts["l"] = read_list("a:0 ~1 b:0")
        self.assert_refused("a a d:0", ("NoName", "d"), parts)

    def test_each_of_many_lists(self):
        chance = random.Random(10)
        counts = {}
        for _ in range(3000):
            parts = {name: random_items(chance, 2, "xyzw"[k:], True) for k, name in enumerate("xyz", start=1)}
            if chance.random() < 0.2:
                parts["z"] += (("part", chance.choice("xyz")),)
            items = random_items(chance, 2, "xyz", True)
            due = next(faults(items, parts, REELS, ()), None)
            self.assertEqual(refusal_of(sound, items, parts, REELS), due, show_list(items))
            counts[due and due[0]] = counts.get(due and due[0], 0) + 1
        self.assertGreater(min(counts.values()), 100)
        self.assertEqual(len(counts), 4)


def stray_backs(items):
    """All "back" items but those around a single part."""
    found = [item for item in items if item[0] == "back" and (len(item[1]) != 1 or item[1][0][0] != "part")]
    for item in items:
        if item[0] in ("times", "back"):
            found.extend(stray_backs(item[-1]))
    return found


class Turned(unittest.TestCase):
    def assert_turned(self, text, due):
        with self.subTest(text):
            told = turned(read_list(text))
            self.assertEqual(show_list(told), due)
            self.assertEqual(told, read_list(due))

    def test_clips(self):
        self.assert_turned("a:3", "a:3")
        self.assert_turned("a:3-7", "a:7-3")
        self.assert_turned("a:7-3", "a:3-7")
        self.assert_turned("a:1-2 b:3-4 c:5-6", "c:6-5 b:4-3 a:2-1")

    def test_fades_stand_between_the_same_two(self):
        self.assert_turned("a:1-2 ~5 b:3-4 c:5-6", "c:6-5 b:4-3 ~5 a:2-1")
        self.assert_turned("a:1-2 b:3-4 ~5 c:5-6", "c:6-5 ~5 b:4-3 a:2-1")
        self.assert_turned("a:1 ~2 b:1 ~3 c:1", "c:1 ~3 b:1 ~2 a:1")

    def test_times(self):
        self.assert_turned("a:1 3*( b:3-4 ~2 c:5-6 )", "3*( c:6-5 ~2 b:4-3 ) a:1")
        self.assert_turned("2*( a:1 3*( b:1-2 c:3 ) )", "2*( 3*( c:3 b:2-1 ) a:1 )")

    def test_parts(self):
        self.assert_turned("x", "-( x )")
        self.assert_turned("x ~2 y", "-( y ) ~2 -( x )")
        self.assert_turned("2*( a:1-2 x )", "2*( -( x ) a:2-1 )")

    def test_no_back_but_around_a_single_part(self):
        for text in ("-( a:1-2 )", "-( -( a:1-2 ) )", "-( x )", "-( -( x ) )", "-( x y )", "x", "-( 2*( -( x ) ) )",
                     "-( -( x ~1 y ) ~1 z )", "2*( -( a:1-2 x ) )", "-( a:1 -( b:1 -( c:1 -( x ) ) ) )",
                     "-( 2*( x ) )", "-( 2*( -( a:1-2 ) -( x y ) ) ) ~3 -( -( -( x a:2-5 ) ) )", "-( ~1 )", "-( -( ~1 ) )"):
            with self.subTest(text):
                once = turned(read_list(text))
                self.assertEqual(stray_backs(once), [])
                self.assertEqual(stray_backs(turned(once)), [])

    def test_plays_the_other_way_round(self):
        parts = parts_of(x="a:10-15 ~2 b:9-5", y="2*( x ) ~1 c:0 -( x )")
        for text, due in (
            ("a:1-5 b:2", [("b", 2, 2, 0), ("a", 5, 1, 0)]),
            ("a:1-5 ~1 b:2", [("b", 2, 2, 0), ("a", 5, 1, 1)]),
            ("2*( a:1-5 ~1 b:2 )", [("b", 2, 2, 0), ("a", 5, 1, 1), ("b", 2, 2, 0), ("a", 5, 1, 1)]),
            ("-( a:1-5 ~1 b:2 )", [("a", 1, 5, 0), ("b", 2, 2, 1)]),
            ("x", [("b", 5, 9, 0), ("a", 15, 10, 2)]),
            ("-( x )", [("a", 10, 15, 0), ("b", 9, 5, 2)]),
            ("x ~3 a:1-5", [("a", 5, 1, 0), ("b", 5, 9, 3), ("a", 15, 10, 2)]),
            ("a:1-5 ~3 x", [("b", 5, 9, 0), ("a", 15, 10, 2), ("a", 5, 1, 3)]),
            ("a:1-5 ~3 -( x )", [("a", 10, 15, 0), ("b", 9, 5, 2), ("a", 5, 1, 3)]),
            ("y", [("a", 10, 15, 0), ("b", 9, 5, 2), ("c", 0, 0, 0)] + [("b", 5, 9, 1), ("a", 15, 10, 2)]
             + [("b", 5, 9, 0), ("a", 15, 10, 2)]),
        ):
            items = read_list(text)
            with self.subTest(text):
                self.assertEqual(played(turned(items), parts, REELS), due)
                self.assertEqual(played((("back", items),), parts, REELS), due)
                self.assertEqual(played(turned(turned(items)), parts, REELS), played(items, parts, REELS))

    def test_stays_refused(self):
        """A fade at an end of its list does not come to stand between two items."""
        for text in ("a:1 -( ~1 ) b:1", "a:1 -( ~1 b:1 )", "-( a:1 ~1 ) b:1", "2*( a:1 -( -( ~1 b:1 ) ) )",
                     "a:1 -( -( ~1 ) ) b:1", "-( a:1 -( b:1 ~1 ) c:0 )", "~1 a:1", "a:1 ~1 ~1 b:1"):
            items = read_list(text)
            with self.subTest(text):
                self.assertEqual(refusal_of(sound, items, NONE, REELS), ("NoFade",))
                self.assertEqual(refusal_of(sound, turned(items), NONE, REELS), ("NoFade",))
                self.assertEqual(refusal_of(sound, turned(turned(items)), NONE, REELS), ("NoFade",))

    def test_does_not_grow_by_turning_again_and_again(self):
        items = read_list("-( x a:1-2 ) 3*( -( y ) ~2 z )")
        twice = turned(turned(items))
        self.assertEqual(turned(turned(twice)), twice)

    def test_the_list_handed_in_stays(self):
        items = read_list("-( x a:1-2 ) 3*( -( y ) ~2 z )")
        before = copy.deepcopy(items)
        told = turned(items)
        self.assertIs(type(told), tuple)
        self.assertEqual(items, before)
        self.assertEqual(turned(items), told)

    def test_each_of_many_lists(self):
        chance = random.Random(11)
        many = 0
        for _ in range(2000):
            parts = {"x": random_items(chance, 0, "x", False)}
            parts["y"] = random_items(chance, 1, "x", False)
            items = random_items(chance, 3, "xy", False)
            once = turned(items)
            self.assertEqual(stray_backs(once), [])
            if refusal_of(played, items, parts, REELS) is None:
                many += 1
                self.assertEqual(played(once, parts, REELS), played((("back", items),), parts, REELS))
                self.assertEqual(played(turned(once), parts, REELS), played(items, parts, REELS))
                self.assertEqual(stray_backs(turned(once)), [])
        self.assertGreater(many, 1000)


class HandedIn(unittest.TestCase):
    def test_all_stays(self):
        parts = parts_of(x="a:0 ~1 y", y="b:0-9 z", z="c:0")
        reels = list(REELS)
        items = read_list("x 2*( y ) -( z )")
        before = copy.deepcopy((items, parts, reels))
        sound(items, parts, reels)
        self.assertEqual((items, parts, reels), before)
        self.assertEqual(list(parts), ["x", "y", "z"])

    def test_nothing_is_remembered(self):
        parts = parts_of(x="a:0")
        items = read_list("x")
        sound(items, parts, REELS)
        parts["x"] = read_list("a:99")
        self.assertEqual(refusal_of(sound, items, parts, REELS), ("NoFrame", "a", 99))
        parts["x"] = read_list("a:1")
        self.assertEqual(sound(items, parts, REELS), items)
        self.assertEqual(refusal_of(sound, items, {}, REELS), ("NoName", "x"))
        self.assertEqual(refusal_of(sound, items, parts, REELS[1:]), ("NoName", "a"))

    def test_classes(self):
        self.assertRaises(NoName, sound, read_list("x"), {}, REELS)
        self.assertRaises(NoFrame, sound, read_list("a:50"), {}, REELS)
        self.assertRaises(NoFade, sound, read_list("~1"), {}, REELS)

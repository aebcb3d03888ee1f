"""Points 26 and 27, and point 4 of them: lists brought over to another reel."""

import copy
import random
import re
import unittest

from leadersplice.errors import NoFrame, NoName
from leadersplice.listtexts import read_list, show_list
from leadersplice.over import brought_over
from leadersplice.played import played
from leadersplice.prints import needs, prints_for
from leadersplice.reels import key_of
from leadersplice.shown import shown
from leadersplice.strips import joins, strips_of
from tests.helper import parts_of, refusal_of

# The frames 10 to 49 of a are the frames 0 to 39 of b, those of c are the frames 20 to 24 of a; d has other letters.
REELS = [("a", "AB", 100, 50), ("b", "AB", 110, 60), ("c", "AB", 120, 5), ("d", "AC", 100, 50), ("a" * 8, "AB", 100, 50)]


def bring(text, one, other, parts=None):
    told = brought_over(read_list(text), parts or {}, REELS, one, other)
    return show_list(told[0])


def refusal(text, one, other, **texts):
    return refusal_of(brought_over, read_list(text), parts_of(**texts), REELS, one, other)


def plain_text(text, one, other):
    """The text with the one reel's clips written anew, word by word."""
    starts = {name: start for name, _, start, _ in REELS}
    step = starts[one] - starts[other]

    def anew(found):
        numbers = [str(int(number) + step) for number in found.group(2).split("-")]
        return other + ":" + "-".join(numbers)
    return " ".join(re.sub(r"^(" + one + r"):([0-9-]+)$", anew, word) for word in text.split(" "))


class Brought(unittest.TestCase):
    def test_clips(self):
        self.assertEqual(bring("a:10-49", "a", "b"), "b:0-39")
        self.assertEqual(bring("a:49-10", "a", "b"), "b:39-0")
        self.assertEqual(bring("a:12", "a", "b"), "b:2")
        self.assertEqual(bring("b:0-39 b:7", "b", "a"), "a:10-49 a:17")
        self.assertEqual(bring("a:20-24 a:24 a:20", "a", "c"), "c:0-4 c:4 c:0")

    def test_a_clip_stays_one_tuple(self):
        told = brought_over((("clip", "a", 12, 12), ("clip", "a", 13, 12)), {}, REELS, "a", "b")
        self.assertEqual(told, ((("clip", "b", 2, 2), ("clip", "b", 3, 2)), {}))

    def test_within_times_and_backs(self):
        self.assertEqual(bring("2*( a:10 -( a:11-12 3*( a:20-15 ) ) ) a:49", "a", "b"),
                         "2*( b:0 -( b:1-2 3*( b:10-5 ) ) ) b:39")

    def test_all_else_stays(self):
        text = "x c:3-4 ~2 b:5 a:10 20*( y -( d:49 ) ~1 b:59 ) -( x ) zz"
        self.assertEqual(bring(text, "a", "b"), text.replace("a:10", "b:0"))

    def test_a_part_that_is_called_like_the_reel_stays(self):
        self.assertEqual(bring("a a:10 a", "a", "b"), "a b:0 a")

    def test_a_name_that_begins_alike_stays(self):
        self.assertEqual(bring("aaaaaaaa:3 a:10", "a", "b"), "aaaaaaaa:3 b:0")
        self.assertEqual(bring("aaaaaaaa:10 a:10", "a" * 8, "b"), "b:0 a:10")

    def test_to_itself(self):
        text = "a:10 2*( a:0-49 ~1 b:3 ) x"
        self.assertEqual(bring(text, "a", "a"), text)
        self.assertEqual(refusal("a:50", "a", "a"), ("NoFrame", "a", 50))
        self.assertEqual(refusal("a:3-50", "a", "a"), ("NoFrame", "a", 50))

    def test_no_clip_of_the_one(self):
        self.assertEqual(bring("b:5 x", "a", "b"), "b:5 x")
        self.assertEqual(bring("b:5 x", "d", "c"), "b:5 x")

    def test_the_parts_too(self):
        parts = parts_of(z="a:10 a", a="2*( a:49-48 ) ~1", m="b:3")
        told = brought_over(read_list("z"), parts, REELS, "a", "b")
        self.assertEqual(told, (read_list("z"), parts_of(z="b:0 a", a="2*( b:39-38 ) ~1", m="b:3")))
        self.assertEqual(list(told[1]), ["z", "a", "m"])

    def test_parts_that_no_list_leads_to(self):
        told = brought_over(read_list("c:1"), parts_of(x="a:12"), REELS, "a", "b")
        self.assertEqual(told[1], parts_of(x="b:2"))

    def test_kinds(self):
        told = brought_over(read_list("a:10 2*( a:11 ) -( a:12 )"), parts_of(x="a:13"), REELS, "a", "b")
        self.assertEqual([type(thing) for thing in (told, told[0], told[1], told[1]["x"])], [tuple, tuple, dict, tuple])
        self.assertEqual([type(item) for item in told[0]], [tuple] * 3)
        self.assertEqual([type(told[0][1][2]), type(told[0][2][1])], [tuple, tuple])


class NotSound(unittest.TestCase):
    def test_need_not_be(self):
        """Fades at the ends and beside one another, reels and parts that are not there, frames beyond a reel's end."""
        self.assertEqual(bring("~3 ~2 nobody:5 ghost a:10 c:99 b:1000 ~1", "a", "b"),
                         "~3 ~2 nobody:5 ghost b:0 c:99 b:1000 ~1")

    def test_parts_that_lead_to_themselves(self):
        parts = parts_of(x="y a:10", y="x 2*( a:11 )")
        told = brought_over(read_list("x"), parts, REELS, "a", "b")
        self.assertEqual(told, (read_list("x"), parts_of(x="y b:0", y="x 2*( b:1 )")))

    def test_too_long_and_too_short(self):
        self.assertEqual(bring("999999999*( a:10 ) ~999999999 a:11", "a", "b"),
                         "999999999*( b:0 ) ~999999999 b:1")

    def test_no_items(self):
        self.assertEqual(brought_over((), {}, REELS, "a", "b"), ((), {}))


class Refused(unittest.TestCase):
    def test_no_name(self):
        self.assertEqual(refusal("a:10", "nobody", "b"), ("NoName", "nobody"))
        self.assertEqual(refusal("a:10", "a", "nobody"), ("NoName", "nobody"))
        self.assertEqual(refusal("a:10", "one", "other"), ("NoName", "one"))
        self.assertEqual(refusal("a:10", "other", "one"), ("NoName", "other"))
        self.assertEqual(refusal("a:10", "nobody", "nobody"), ("NoName", "nobody"))

    def test_no_name_where_no_clip_is_of_it(self):
        self.assertEqual(refusal("b:1", "nobody", "b"), ("NoName", "nobody"))
        self.assertEqual(refusal("b:1", "a", "nobody"), ("NoName", "nobody"))
        self.assertEqual(refusal_of(brought_over, (), {}, [], "a", "b"), ("NoName", "a"))

    def test_no_name_ahead_of_no_frame(self):
        self.assertEqual(refusal("a:50", "a", "nobody"), ("NoName", "nobody"))
        self.assertEqual(refusal("nobody:50", "nobody", "a"), ("NoName", "nobody"))

    def test_first_by_the_one_reel(self):
        self.assertEqual(refusal("a:50", "a", "b"), ("NoFrame", "a", 50))
        self.assertEqual(refusal("a:50-10", "a", "b"), ("NoFrame", "a", 50))
        self.assertEqual(refusal("b:60", "b", "a"), ("NoFrame", "b", 60))

    def test_first_by_the_other_reel(self):
        self.assertEqual(refusal("a:9", "a", "b"), ("NoFrame", "b", None))
        self.assertEqual(refusal("a:9-10", "a", "b"), ("NoFrame", "b", None))
        self.assertEqual(refusal("b:40", "b", "a"), ("NoFrame", "a", None))
        self.assertEqual(refusal("a:25-24", "a", "c"), ("NoFrame", "c", None))

    def test_last_by_the_one_reel(self):
        self.assertEqual(refusal("a:49-50", "a", "b"), ("NoFrame", "a", 50))
        self.assertEqual(refusal("b:0-60", "b", "a"), ("NoFrame", "b", 60))

    def test_last_by_the_other_reel(self):
        self.assertEqual(refusal("a:10-9", "a", "b"), ("NoFrame", "b", None))
        self.assertEqual(refusal("a:24-25", "a", "c"), ("NoFrame", "c", None))

    def test_first_by_both_reels_ahead_of_last(self):
        self.assertEqual(refusal("a:9-50", "a", "b"), ("NoFrame", "b", None))
        self.assertEqual(refusal("a:50-9", "a", "b"), ("NoFrame", "a", 50))
        self.assertEqual(refusal("a:51-50", "a", "b"), ("NoFrame", "a", 51))

    def test_other_letters(self):
        self.assertEqual(refusal("a:10", "a", "d"), ("NoFrame", "d", None))
        self.assertEqual(refusal("a:50", "a", "d"), ("NoFrame", "a", 50))

    def test_the_first_clip_of_the_text(self):
        self.assertEqual(refusal("a:10 a:51 a:52", "a", "b"), ("NoFrame", "a", 51))
        self.assertEqual(refusal("2*( a:10 -( a:51 ) a:52 ) a:53", "a", "b"), ("NoFrame", "a", 51))
        self.assertEqual(refusal("-( a:10 a:51 a:52 )", "a", "b"), ("NoFrame", "a", 51))
        self.assertEqual(refusal("2*( a:10 ) a:9 a:52", "a", "b"), ("NoFrame", "b", None))
        self.assertEqual(refusal("b:99 c:99 nobody:7 a:54", "a", "b"), ("NoFrame", "a", 54))

    def test_the_list_ahead_of_the_parts(self):
        """Parts are not gone into where they stand."""
        self.assertEqual(refusal("x a:51", "a", "b", x="a:52"), ("NoFrame", "a", 51))
        self.assertEqual(refusal("x 2*( a:51 )", "a", "b", x="a:52"), ("NoFrame", "a", 51))

    def test_parts_in_the_dicts_order(self):
        self.assertEqual(refusal("x y", "a", "b", z="b:99 a:10", y="a:10 a:53", x="a:52"), ("NoFrame", "a", 53))
        self.assertEqual(refusal("x y", "a", "b", x="y a:52", y="a:53"), ("NoFrame", "a", 52))
        self.assertEqual(refusal("b:1", "a", "b", x="a:52"), ("NoFrame", "a", 52))

    def test_the_errors_bear_their_fields(self):
        with self.assertRaises(NoName) as caught:
            bring("a:10", "a", "nobody")
        self.assertEqual(caught.exception.name, "nobody")
        with self.assertRaises(NoFrame) as caught:
            bring("a:9", "a", "b")
        self.assertEqual((caught.exception.reel, caught.exception.frame), ("b", None))


def drawn_items(chance, room):
    """Items of which the clips of a and b, but for some, have frames of the other one."""
    items = []
    for _ in range(chance.randint(1, 4)):
        kind = chance.choice(("clip", "clip", "clip", "part", "fade", "times", "back")[:7 if room else 5])
        if kind == "clip":
            reel = chance.choice("aabcn")
            low = 10 if reel == "a" and chance.random() < 0.97 else 0
            high = 39 if reel == "b" and chance.random() < 0.97 else 49
            items.append((kind, reel, chance.randint(low, high), chance.randint(low, high)))
        elif kind == "part":
            items.append((kind, chance.choice("xyz")))
        elif kind == "fade":
            items.append((kind, chance.randint(1, 9)))
        elif kind == "times":
            items.append((kind, chance.randint(1, 9), drawn_items(chance, room - 1)))
        else:
            items.append((kind, drawn_items(chance, room - 1)))
    return tuple(items)


class ManyLists(unittest.TestCase):
    def test_word_by_word(self):
        chance = random.Random(27)
        some = 0
        for _ in range(1500):
            items = drawn_items(chance, 3)
            parts = {name: drawn_items(chance, 2) for name in chance.sample("xyz", chance.randint(0, 3))}
            one, other = chance.choice((("a", "b"), ("b", "a"), ("c", "a"), ("a", "a")))
            texts = [show_list(items)] + [show_list(part) for part in parts.values()]
            before = copy.deepcopy((items, parts))
            due = self.refusal_due(" ".join(texts), one, other)
            self.assertEqual(refusal_of(brought_over, items, parts, REELS, one, other), due, (texts, one, other))
            self.assertEqual((items, parts), before)
            if due is None:
                some += 1
                told = brought_over(items, parts, REELS, one, other)
                self.assertEqual(list(told[1]), list(parts))
                self.assertEqual([show_list(part) for part in (told[0],) + tuple(told[1].values())],
                                 [plain_text(text, one, other) for text in texts])
        self.assertGreater(some, 300)

    def refusal_due(self, text, one, other):
        """By a row of all frames that the clips begin and end with."""
        many = {name: many for name, _, _, many in REELS}
        starts = {name: start for name, _, start, _ in REELS}
        for numbers in re.findall(r"\b" + one + r":([0-9-]+)", text):
            for number in numbers.split("-"):
                if int(number) >= many[one]:
                    return ("NoFrame", one, int(number))
                if not 0 <= int(number) + starts[one] - starts[other] < many[other]:
                    return ("NoFrame", other, None)
        return None

    def test_there_and_back(self):
        chance = random.Random(28)
        some = 0
        for _ in range(1500):
            items = drawn_items(chance, 3)
            parts = {name: drawn_items(chance, 2) for name in chance.sample("xyz", chance.randint(0, 3))}
            texts = " ".join([show_list(items)] + [show_list(part) for part in parts.values()])
            if "b:" in texts or refusal_of(brought_over, items, parts, REELS, "a", "b"):
                continue
            some += 1
            there = brought_over(items, parts, REELS, "a", "b")
            back = brought_over(there[0], there[1], REELS, "b", "a")
            self.assertEqual(back, (items, parts))
            self.assertEqual(list(back[1]), list(parts))
        self.assertGreater(some, 100)

    def test_the_edge_numbers_of_what_is_shown_are_the_same(self):
        chance = random.Random(29)
        some = 0
        for _ in range(3000):
            items = drawn_items(chance, 2)
            parts = {name: drawn_items(chance, 1) for name in "xyz"}
            if refusal_of(played, items, parts, REELS) or refusal_of(brought_over, items, parts, REELS, "a", "b"):
                continue
            some += 1
            clips = played(items, parts, REELS)
            told = brought_over(items, parts, REELS, "a", "b")
            there = played(told[0], told[1], REELS)
            self.assertEqual(self.edge_numbers(there), self.edge_numbers(clips))
            for moment, moment_there in zip(shown(clips), shown(there)):
                for frame, frame_there in zip(moment, moment_there):
                    same = frame[0] != "a"
                    self.assertEqual(frame_there[0], frame[0] if same else "b")
                    self.assertEqual(frame_there[1], frame[1] if same else frame[1] - 10)
            if not any(clip[0] == "b" for clip in clips):
                self.assertEqual(joins(there), joins(clips))
                renamed = [("b" if reel == "a" else reel, many) for reel, many in needs(strips_of(clips), 2)]
                self.assertEqual(needs(strips_of(there), 2), sorted(renamed))
                self.assertEqual(prints_for(strips_of(there), 2), prints_for(strips_of(clips), 2))
        self.assertGreater(some, 100)

    def edge_numbers(self, clips):
        return [[(key_of(REELS, reel, number), part, whole) for reel, number, part, whole in moment]
                for moment in shown(clips)]


class HandedIn(unittest.TestCase):
    def test_all_stays(self):
        items = read_list("a:10 2*( a:11 ) x")
        parts = parts_of(x="a:12", y="a:13")
        reels = list(REELS)
        before = copy.deepcopy((items, parts, reels))
        brought_over(items, parts, reels, "a", "b")
        refusal_of(brought_over, items, parts, reels, "a", "c")
        self.assertEqual((items, parts, reels), before)
        self.assertEqual(list(parts), ["x", "y"])

    def test_the_parts_told_are_new(self):
        for one, other in (("a", "b"), ("a", "a"), ("d", "c")):
            parts = parts_of(x="a:12", y="b:13")
            before = copy.deepcopy(parts)
            told = brought_over(read_list("x"), parts, REELS, one, other)
            kept = copy.deepcopy(told)
            told[1].clear()
            self.assertEqual(parts, before)
            told = brought_over(read_list("x"), parts, REELS, one, other)
            parts.clear()
            self.assertEqual(told, kept)

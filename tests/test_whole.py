"""Points 2, 3 and 4 over the whole program: from a list's text to the rolls, over drawn lists, and the bounds."""

import copy
import itertools
import random
import unittest

from leadersplice.bench import Bench
from leadersplice.desk import Desk
from leadersplice.keys import read_key, show_key
from leadersplice.lists import sound, turned
from leadersplice.listtexts import read_list, show_list
from leadersplice.over import brought_over
from leadersplice.played import played
from leadersplice.prints import cuts, needs, prints_for, reasons
from leadersplice.reels import checked, frame_of, key_of
from leadersplice.rolls import roll_shows, rolls
from leadersplice.shown import length, shown
from leadersplice.strips import frames_of, joins, strips_of
from tests.helper import cuttings, drawn_cutting, frames_with_fades, most_at_once, parts_of, refusal_of, wanted

# All frames of a are frames of wide, by their edge numbers.
REELS = [("a", "AB", 1000, 40), ("b", "CD", 0, 40), ("wide", "AB", 700, 900)]
NAMES = "abcdefghijkl"


def drawn_items(chance, room, names, longest):
    """Items that are sound; the parts that they name come behind the one that they stand in."""
    items = []
    for _ in range(chance.randint(1, 4)):
        if items and chance.random() < 0.3:
            items.append(("fade", chance.randint(1, 2)))
        kind = chance.choice(("clip", "clip", "clip", "part", "times", "back")) if room else "clip"
        if kind == "part" and names:
            items.append((kind, chance.choice(names)))
        elif kind == "times":
            items.append((kind, chance.randint(1, 3), drawn_items(chance, room - 1, names, longest)))
        elif kind == "back":
            items.append((kind, drawn_items(chance, room - 1, names, longest)))
        else:
            first = chance.randrange(40)
            if items and items[-1][0] == "clip" and chance.random() < 0.5:
                first = min(items[-1][3] + 1, 39)
            last = min(max(first + chance.randint(-longest, longest), 0), 39)
            items.append(("clip", chance.choice("aab"), first, last))
    return tuple(items)


def drawn_list(chance, longest):
    """A list and parts that play, as texts are told of them."""
    while True:
        parts = {"y": drawn_items(chance, 1, "", longest), "x": drawn_items(chance, 1, "y", longest)}
        items = drawn_items(chance, 2, "xy", longest)
        if refusal_of(played, items, parts, REELS) is None:
            return (items, parts)


class Promise(unittest.TestCase):
    def test_from_the_text_to_the_rolls(self):
        chance = random.Random(33)
        laid = refused = 0
        for _ in range(400):
            items, parts = drawn_list(chance, 9)
            self.assertEqual(read_list(show_list(items)), items)
            self.assertEqual(sound(items, parts, REELS), items)
            clips = played(items, parts, REELS)
            strips = strips_of(clips)
            self.strips_show_the_frames(clips, strips)
            self.prints_bear_the_cuts(strips, chance.choice((0, 1, 4, 50)))
            if refusal_of(rolls, strips, 1) is None:
                self.rolls_show_the_film(clips, strips, 1)
                laid += 1
            else:
                self.one_is_too_short(strips, 1)
                refused += 1
        self.assertGreater(min(laid, refused), 50)

    def strips_show_the_frames(self, clips, strips):
        row = [(strip[0], number) for strip in strips for number in frames_of(strip)]
        self.assertEqual(row, [frame[:2] for frame in frames_with_fades(clips)])
        self.assertEqual(joins(clips), len(strips) - 1)
        self.assertEqual(length(clips), len(shown(clips)))
        self.assertEqual(length(clips), len(row) - sum(strip[3] for strip in strips))

    def prints_bear_the_cuts(self, strips, spoil):
        prints = prints_for(strips, spoil)
        found = []
        for reel, many in needs(strips, spoil):
            for number in range(many):
                row = cuts(strips, prints, reel, number)
                self.assertTrue(row)
                for ahead, after in zip(row, row[1:]):
                    self.assertGreater(after[0] - ahead[1], spoil)
                found += [cut[2] for cut in row]
            frame, numbers = [reason[1:] for reason in reasons(strips, spoil) if reason[0] == reel][0]
            self.assertEqual(len(numbers), many)
            for number in numbers:
                self.assertIn((reel, frame), wanted(strips[number], spoil))
        self.assertEqual(sorted(found), list(range(len(strips))))
        self.assertEqual(max(many for _, many in needs(strips, spoil)), most_at_once(strips, spoil))

    def rolls_show_the_film(self, clips, strips, leader):
        rows = [roll_shows(strips, roll) for roll in rolls(strips, leader)]
        seen = [sorted(frame for frame in moment if frame) for moment in zip(rows[0], rows[1])]
        self.assertEqual(seen, [sorted(frame[:2] for frame in moment) for moment in shown(clips)])
        self.assertEqual(len(rows[0]), len(rows[1]))
        self.assertEqual(len(rows[0]), length(clips))

    def one_is_too_short(self, strips, leader):
        number = refusal_of(rolls, strips, leader)[1]
        fades = strips[number][3] + strips[number + 1][3]
        self.assertLess(len(frames_of(strips[number])), fades + leader)
        # Those ahead of it are long enough.
        self.assertIsNone(refusal_of(rolls, strips[:number + 1], leader))

    def test_no_cutting_has_fewer_joins_or_prints(self):
        chance = random.Random(34)
        for _ in range(150):
            items, parts = drawn_list(chance, 2)
            clips = played(items, parts, REELS)
            spoil = chance.choice((0, 1, 2))
            strips = strips_of(clips)
            some = [drawn_cutting(chance, clips) for _ in range(5)]
            some += itertools.islice(cuttings(frames_with_fades(clips)), 20)
            for cutting in some:
                self.assertGreaterEqual(len(cutting) - 1, joins(clips))
                for reel, frame, numbers in reasons(strips, spoil):
                    at_once = [strip for strip in cutting if (reel, frame) in wanted(strip, spoil)]
                    self.assertGreaterEqual(len(at_once), len(numbers))

    def test_brought_over_it_has_the_same_edge_numbers_joins_and_prints(self):
        chance = random.Random(35)
        for _ in range(200):
            items, parts = drawn_list(chance, 9)
            told = brought_over(items, parts, REELS, "a", "wide")
            self.assertEqual(brought_over(told[0], told[1], REELS, "wide", "a"), (items, parts))
            clips = played(items, parts, REELS)
            there = played(told[0], told[1], REELS)
            self.assertEqual(self.edge_numbers(there), self.edge_numbers(clips))
            self.assertEqual(joins(there), joins(clips))
            spoil = chance.choice((0, 1, 4))
            renamed = [("wide" if reel == "a" else reel, many) for reel, many in needs(strips_of(clips), spoil)]
            self.assertEqual(needs(strips_of(there), spoil), sorted(renamed))

    def edge_numbers(self, clips):
        return [[(key_of(REELS, reel, number), part, whole) for reel, number, part, whole in moment]
                for moment in shown(clips)]

    def test_turned_about_it_shows_the_same_the_other_way_round(self):
        chance = random.Random(36)
        for _ in range(200):
            items, parts = drawn_list(chance, 9)
            there = [sorted(frame[:2] for frame in moment) for moment in shown(played(items, parts, REELS))]
            back = [sorted(frame[:2] for frame in moment) for moment in shown(played(turned(items), parts, REELS))]
            self.assertEqual(back, there[::-1])

    def test_a_bench_and_a_desk_have_the_same(self):
        chance = random.Random(37)
        for _ in range(60):
            items, parts = drawn_list(chance, 9)
            spoil = chance.choice((0, 1, 4))
            clips = played(items, parts, REELS)
            bench = Bench(REELS, spoil)
            self.assertEqual(bench.change(0, 0, clips), list(range(len(strips_of(clips)))))
            desk = Desk()
            rows = [f"reel {name} {show_key((letters, start))} {many}" for name, letters, start, many in REELS]
            rows += [f"part {name} {show_list(part)}" for name, part in parts.items()]
            for row in rows + [f"spoil {spoil}", f"list {show_list(items)}"]:
                self.assertEqual(desk.say(row), "ok")
            self.assertEqual(bench.strips(), strips_of(clips))
            self.assertEqual(desk.say("strips"), show_list(tuple(("clip",) + strip[:3] for strip in bench.strips())))
            self.assertEqual(desk.say("length"), str(length(clips)))
            self.assertEqual(desk.say("needs"), " ".join(f"{reel}={many}" for reel, many in needs(bench.strips(), spoil)))
            for step in range(4):
                at = chance.randint(0, len(bench.clips()))
                many = chance.randint(0, min(len(bench.clips()) - at, 3))
                if refusal_of(desk.say, f"drop {at} {many}") is None:
                    bench.change(at, many, [])
                    self.assertEqual(desk.say("prints"), " ".join(map(str, bench.prints())))
                    self.prints_bear_the_cuts_of(bench, spoil)

    def prints_bear_the_cuts_of(self, bench, spoil):
        strips = bench.strips()
        for reel, many in needs(strips, spoil):
            rows = [cuts(strips, bench.prints(), reel, number) for number in range(many + 1)]
            self.assertEqual([bool(row) for row in rows], [True] * many + [False])
            for row in rows:
                for ahead, after in zip(row, row[1:]):
                    self.assertGreater(after[0] - ahead[1], spoil)


class Bounds(unittest.TestCase):
    def test_twelve_reels(self):
        reels = [(name * 8, name.upper() * 2, 0, 160000) for name in NAMES]
        self.assertEqual(checked(reels), reels)
        items = read_list(" ".join(f"{name * 8}:159999-159998" for name in NAMES))
        clips = played(items, {}, reels)
        self.assertEqual(needs(strips_of(clips), 50), [(name * 8, 1) for name in NAMES])
        told = brought_over(items, {}, reels, "a" * 8, "a" * 8)
        self.assertEqual(told, (items, {}))
        self.assertEqual(refusal_of(brought_over, items, {}, reels, "a" * 8, "b" * 8), ("NoFrame", "b" * 8, None))

    def test_the_last_edge_number_and_one_more(self):
        reels = [("a", "ZZ", 159999, 1)]
        self.assertEqual(show_key(key_of(checked(reels), "a", 0)), "ZZ9999+15")
        self.assertEqual(frame_of(reels, "a", read_key("ZZ9999+15")), 0)
        self.assertEqual(refusal_of(checked, [("a", "ZZ", 159999, 2)]), ("NoReel", 0))
        self.assertEqual(refusal_of(checked, [("a", "ZZ", 160000, 1)]), ("NoReel", 0))
        self.assertEqual(refusal_of(key_of, reels, "a", 1), ("NoFrame", "a", 1))

    def test_twelve_parts_within_one_another(self):
        """Four brackets around twelve parts, each within the one ahead: sixteen deep."""
        parts = {name: read_list(f"{after} a:3") for name, after in zip(NAMES, NAMES[1:])}
        parts["l"] = read_list("b:1-2")
        items = read_list("-( 2*( -( 2*( a ) ) ) )")
        clips = played(items, parts, REELS)
        self.assertEqual(len(clips), 48)
        self.assertEqual(length(clips), 52)
        told = brought_over(items, parts, REELS, "a", "wide")
        self.assertEqual(list(told[1]), list(NAMES))
        self.assertEqual(told[1]["k"], read_list("l wide:303"))
        parts["l"] = read_list("b:1-2 a")
        self.assertEqual(refusal_of(played, items, parts, REELS), ("NoName", "a"))

    def test_sixteen_brackets(self):
        text = "-( " * 15 + "20*( a:1-3 ~1 a:5 )" + " )" * 15
        items = read_list(text)
        self.assertEqual(show_list(items), text)
        clips = played(items, {}, REELS)
        self.assertEqual((len(clips), length(clips)), (40, 60))
        self.assertEqual(played(turned(turned(items)), {}, REELS), clips)
        self.assertEqual(show_list(brought_over(items, {}, REELS, "a", "wide")[0]),
                         text.replace("a:1-3", "wide:301-303").replace("a:5", "wide:305"))

    def test_a_hundred_clips_and_two_thousand_frames(self):
        """Two hundred items: a hundred clips of twenty frames, a fade between each two, and brackets around."""
        text = "-( " + " ~10 ".join(["a:10-29", "b:29-10"] * 50) + " )"
        self.assertLessEqual(len(text), 3000)
        items = read_list(text)
        clips = played(items, {}, REELS)
        strips = strips_of(clips)
        self.assertEqual((len(clips), length(clips), joins(clips)), (100, 1010, 99))
        self.assertEqual(needs(strips, 50), [("a", 50), ("b", 50)])
        both = rolls(strips, 0)
        self.assertEqual([len(roll_shows(strips, roll)) for roll in both], [1010, 1010])
        self.assertEqual(refusal_of(rolls, strips, 1), ("TooShort", 1))
        bench = Bench(REELS, 50)
        self.assertEqual(bench.change(0, 0, clips), list(range(100)))
        self.assertEqual(refusal_of(bench.change, 100, 0, [("a", 0, 0, 0)]), ("TooMany",))
        self.assertEqual(refusal_of(bench.change, 99, 1, [("a", 0, 20, 0)]), ("TooMany",))
        self.assertEqual(bench.change(99, 1, [("a", 0, 19, 10)])[-1], 99)
        desk = Desk()
        desk.say("reel a AB0000+00 40")
        desk.say("reel b AB0000+00 40")
        self.assertEqual(desk.say("list " + text), "ok")
        self.assertEqual(desk.say("length"), "1010")
        self.assertEqual(refusal_of(desk.say, "list " + text + " a:1"), ("TooMany",))
        self.assertEqual(refusal_of(desk.say, "list " + text.replace("a:10-29", "a:10-30", 1)), ("TooMany",))
        self.assertEqual(desk.say("length"), "1010")

    def test_times_of_twenty(self):
        reels = [("a", "AB", 0, 20)]
        self.assertEqual(len(played(read_list("5*( 20*( a:0-19 ) )"), {}, reels)), 100)
        self.assertEqual(refusal_of(played, read_list("5*( 20*( a:0-19 ) ) a:0"), {}, reels), ("TooMany",))
        self.assertEqual(refusal_of(played, read_list("6*( 20*( a:0 ) )"), {}, reels), ("TooMany",))

    def test_fades_of_two_hundred(self):
        clips = played(read_list("wide:0-199 ~200 wide:899-500 ~200 wide:0-199"), {}, REELS)
        strips = strips_of(clips)
        self.assertEqual(length(clips), 400)
        self.assertEqual(shown(clips)[199], (("wide", 199, 1, 201), ("wide", 700, 200, 201)))
        self.assertEqual(rolls(strips, 0), ([("strip", 0), ("strip", 2)], [("strip", 1)]))
        self.assertEqual(refusal_of(rolls, strips, 1), ("TooShort", 1))
        self.assertEqual(refusal_of(played, read_list("wide:0-199 ~200 wide:899-501 ~200 wide:0-199"), {}, REELS),
                         ("TooShort", 1))

    def test_spoils_of_fifty_and_leaders_of_five_hundred(self):
        strips = strips_of(played(read_list("wide:0-9 b:0 wide:60-69"), {}, REELS))
        self.assertEqual(dict(needs(strips, 50)), {"wide": 1, "b": 1})
        strips = strips_of(played(read_list("wide:0-9 b:0 wide:59-69"), {}, REELS))
        self.assertEqual(dict(needs(strips, 50)), {"wide": 2, "b": 1})
        strips = strips_of(played(read_list("a:0 wide:0-499 a:0"), {}, REELS))
        self.assertEqual(rolls(strips, 500)[0], [("strip", 0), ("leader", 500), ("strip", 2)])

    def test_a_text_of_three_thousand_signs(self):
        words = ["abcdefgh:123456789-987654321"] * 103
        text = " ".join(words) + " ~12345678 x"
        self.assertEqual(len(text), 2998)
        text += "yz"
        items = read_list(text)
        self.assertEqual(show_list(items), text)
        self.assertEqual(refusal_of(read_list, text + " a:1234567890"), ("NoList", 105))

    def test_figures_in_a_row(self):
        long = "1" * 20
        for word in (f"a:{long}", f"a:0-{long}", f"~{long}", f"{long}*("):
            self.assertEqual(refusal_of(read_list, word), ("NoList", 0))
        for row in (f"show {long}", f"drop {long} 0", f"reel x AB0000+00 {long}", f"spoil {long}", f"rolls {long}"):
            self.assertEqual(refusal_of(Desk().say, row), ("NoRow",))

    def test_lists_of_millions_of_clips_are_refused_at_once(self):
        parts = {name: read_list(f"20*( {after} {after} )") for name, after in zip(NAMES, NAMES[1:])}
        parts["l"] = read_list("20*( a:0-39 )")
        self.assertEqual(refusal_of(played, read_list("20*( a )"), parts, REELS), ("TooMany",))


class HandedIn(unittest.TestCase):
    def test_what_is_handed_in_stays_and_what_is_told_belongs_to_the_asker(self):
        """All functions one behind the other, each with copies, and what was told changed in between."""
        parts = parts_of(x="a:3-9 ~2 b:5-9", y="x -( a:1 )")
        items = read_list("2*( y ) a:30-20 x")
        reels = list(REELS)
        clips = played(items, parts, reels)
        strips = strips_of(clips)
        prints = prints_for(strips, 3)
        both = rolls(strips, 0)
        handed = (parts, reels, clips, strips, prints, both)
        before = copy.deepcopy(handed)
        bench = Bench(reels, 3)
        calls = [lambda: checked(reels), lambda: played(items, parts, reels), lambda: shown(clips),
                 lambda: strips_of(clips), lambda: frames_of(strips[0]), lambda: prints_for(strips, 3),
                 lambda: needs(strips, 3), lambda: reasons(strips, 3), lambda: cuts(strips, prints, "a", 0),
                 lambda: rolls(strips, 0)[0], lambda: rolls(strips, 0)[1], lambda: roll_shows(strips, both[0]),
                 lambda: brought_over(items, parts, reels, "a", "wide")[1],
                 lambda: bench.change(0, len(bench.clips()), clips),
                 bench.clips, bench.strips, bench.prints]
        for tell in calls:
            told = tell()
            kept = copy.deepcopy(told)
            self.assertTrue(told)
            told.clear()
            self.assertEqual(tell(), kept)
            self.assertEqual(handed, before)

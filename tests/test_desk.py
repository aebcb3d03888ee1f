"""Point 31 and the desk's rows in the interface, point 13 where a desk refuses by it, and point 4 of them."""

import random
import unittest

from leadersplice.bench import Bench
from leadersplice.desk import Desk
from leadersplice.errors import (NoFade, NoFrame, NoKey, NoList, NoName, NoPlace, NoReel, NoRow, SpliceError, TooMany,
                                 TooShort)
from leadersplice.keys import show_key
from leadersplice.listtexts import read_list, show_list
from leadersplice.over import brought_over
from leadersplice.played import played
from leadersplice.prints import needs, prints_for, reasons
from leadersplice.reels import key_of
from leadersplice.rolls import rolls
from leadersplice.shown import length, shown
from leadersplice.strips import strips_of
from tests.helper import drawn_text, refusal_of

# AB0006+04 is ("AB", 100), AB0006+14 is ("AB", 110).
START = ("reel a AB0006+04 50", "reel b AB0006+14 60", "reel long LL0000+00 5000", "part tail a:30-39 ~2 b:5-6")
FILM = "list a:0-2 ~1 a:9 a:8-6 a:2-4"
QUESTIONS = ("length", "show 0", "show 2", "strips", "prints", "needs", "why a", "why b", "why long", "rolls 0", "rolls 1",
             "key a 0", "key b 59", "key long 4999", "over a b a:10-12 tail", "over b a b:0")


def desk_with(*rows):
    desk = Desk()
    for row in START + rows:
        desk.say(row)
    return desk


def answers(desk):
    """What the desk says to all questions, refusals too."""
    return [refusal_of(desk.say, row) or desk.say(row) for row in QUESTIONS]


def playing(desk):
    """How the parts and reels play, told by a desk that is not needed any longer."""
    refusal_of(desk.say, "list tail long:4999")
    return answers(desk)


class DeskTest(unittest.TestCase):
    def assert_says(self, desk, row, answer):
        told = desk.say(row)
        self.assertIs(type(told), str)
        self.assertEqual(told, answer, row)

    def assert_refused(self, row, refusal, *rows):
        """The row is refused behind those told ahead of it, and nothing is kept of it."""
        desk = desk_with(*rows)
        before = answers(desk)
        self.assertEqual(refusal_of(desk.say, row), refusal, row)
        self.assertEqual(answers(desk), before, row)
        self.assertEqual(playing(desk), playing(desk_with(*rows)), row)


class NoRows(DeskTest):
    def test_no_text(self):
        for row in (None, 0, 5, True, b"length", ["length"], ("length",), {}, [], ("reel", "a", "AB0006+04", 50)):
            self.assert_refused(row, ("NoRow",), FILM)

    def test_unknown_first_words(self):
        for row in ("", " ", "  ", "x", "Length", "LENGTH", "lengths", "lengt", " length", "length\n", "reels", "listtail",
                    "list:tail", "cuts", "joins", "quit", "help", "0", "ok", " list tail", "say length", "strip", "rolls\t1"):
            self.assert_refused(row, ("NoRow",), FILM)

    def test_too_few_words(self):
        for row in ("reel", "reel x", "reel x AB0000+00", "part", "part x", "spoil", "list", "drop", "drop 0", "show", "why",
                    "rolls", "key", "key a", "over", "over a", "over a b", "over a:5"):
            self.assert_refused(row, ("NoRow",), FILM)

    def test_too_many_words(self):
        for row in ("reel x AB0000+00 5 6", "spoil 1 2", "drop 0 1 2", "length 0", "show 0 1", "strips a", "prints a",
                    "needs a", "why a b", "rolls 0 0", "key a 0 1"):
            self.assert_refused(row, ("NoRow",), FILM)

    def test_a_blank_at_an_end(self):
        for row in ("reel x AB0000+00 5 ", "spoil 1 ", "drop 0 1 ", "length ", "show 0 ", "strips ", "prints ", "needs ",
                    "why a ", "rolls 0 ", "key a 0 ", " length", " show 0", " part x a:1", " list a:1"):
            self.assert_refused(row, ("NoRow",), FILM)

    def test_two_blanks(self):
        for row in ("reel  x AB0000+00 5", "reel x  AB0000+00 5", "reel x AB0000+00  5", "spoil  1", "drop  0 1", "drop 0  1",
                    "show  0", "why  a", "rolls  0", "key  a 0", "key a  0"):
            self.assert_refused(row, ("NoRow",), FILM)

    def test_a_word_without_signs_is_no_number(self):
        for row in ("reel x AB0000+00 ", "spoil ", "drop  1", "drop 0 ", "drop  ", "show ", "rolls ", "key a "):
            self.assert_refused(row, ("NoRow",), FILM)

    def test_numbers_that_are_not_written_so(self):
        for number in ("00", "01", "007", "000000001", "1234567890", "0000000001", "-1", "+1", "1.0", "1e1", "1_0", "x", "0x1",
                       "", "one", "\u0661", "\u00b2", "1\n", "~1", "12345678901234567890"):
            for row in ("reel x AB0000+00 {}", "spoil {}", "drop {} 0", "drop 0 {}", "show {}", "rolls {}", "key a {}"):
                self.assert_refused(row.format(number), ("NoRow",), FILM)

    def test_nine_figures_are_a_number(self):
        self.assert_refused("reel x AB0000+00 999999999", ("NoReel", 3))
        self.assert_refused("show 999999999", ("NoPlace",), FILM)
        self.assert_refused("drop 999999999 0", ("NoPlace",), FILM)
        self.assert_refused("drop 0 999999999", ("NoPlace",), FILM)
        self.assert_refused("rolls 999999999", ("TooShort", 1), FILM)
        self.assert_refused("key a 999999999", ("NoFrame", "a", 999999999))
        self.assert_says(desk_with(FILM), "spoil 999999999", "ok")

    def test_no_row_ahead_of_what_the_row_refuses(self):
        self.assert_refused("reel X AB 01", ("NoRow",))
        self.assert_refused("key nobody 01", ("NoRow",))
        self.assert_refused("drop 99 x", ("NoRow",))
        self.assert_refused("show 99 99", ("NoRow",))
        self.assert_refused("why nobody nobody", ("NoRow",))


class Reels(DeskTest):
    def test_told(self):
        desk = Desk()
        self.assert_says(desk, "reel a AB0012+05 20", "ok")
        self.assert_says(desk, "key a 0", "AB0012+05")
        self.assert_says(desk, "key a 11", "AB0013+00")
        self.assert_says(desk, "reel z ZZ9999+15 1", "ok")
        self.assert_says(desk, "key z 0", "ZZ9999+15")

    def test_no_key(self):
        for key in ("AB0012+5", "AB0012+16", "ab0012+05", "x", "", "AB0012-05", "AB0012+055"):
            self.assert_refused(f"reel x {key} 5", ("NoKey",))
        self.assert_refused("reel  AB 5", ("NoKey",))

    def test_no_reel(self):
        self.assert_refused("reel a AB0000+00 5", ("NoReel", 3))
        self.assert_refused("reel X AB0000+00 5", ("NoReel", 3))
        self.assert_refused("reel abcdefghi AB0000+00 5", ("NoReel", 3))
        self.assert_refused("reel  AB0000+00 5", ("NoReel", 3))
        self.assert_refused("reel x AB0000+00 0", ("NoReel", 3))
        self.assert_refused("reel x AB0000+00 160001", ("NoReel", 3))
        self.assert_refused("reel x AB9999+15 2", ("NoReel", 3))
        self.assertEqual(refusal_of(Desk().say, "reel X AB0000+00 5"), ("NoReel", 0))

    def test_no_key_ahead_of_no_reel(self):
        self.assert_refused("reel X AB 0", ("NoKey",))

    def test_the_greatest(self):
        self.assert_says(Desk(), "reel abcdefgh AB0000+00 160000", "ok")

    def test_the_bench_stays(self):
        desk = desk_with("spoil 1", FILM, "drop 1 1")
        before = answers(desk)
        self.assert_says(desk, "reel x AC0000+00 5", "ok")
        self.assertEqual(answers(desk), before)
        self.assertEqual(refusal_of(desk.say, "why x"), ("NoPlace",))
        self.assert_says(desk, "drop 0 0", "")

    def test_told_later_it_is_there_for_lists(self):
        desk = desk_with()
        self.assertEqual(refusal_of(desk.say, "list x:3"), ("NoName", "x"))
        desk.say("reel x AC0000+00 5")
        self.assert_says(desk, "list x:3", "ok")
        self.assertEqual(refusal_of(desk.say, "list x:5"), ("NoFrame", "x", 5))


class Parts(DeskTest):
    def test_told_and_played(self):
        desk = desk_with()
        self.assert_says(desk, "part x a:3-5 ~1 b:7", "ok")
        self.assert_says(desk, "list x", "ok")
        self.assert_says(desk, "strips", "a:3-5 b:7")

    def test_told_anew(self):
        desk = desk_with("part x a:3-5", "list x b:1")
        self.assert_says(desk, "part x a:4", "ok")
        # The film on the bench is what was played.
        self.assert_says(desk, "strips", "a:3-5 b:1")
        self.assert_says(desk, "list x b:1", "ok")
        self.assert_says(desk, "strips", "a:4 b:1")

    def test_read_no_more(self):
        """A part need not be sound."""
        for text in ("~3", "nobody:5", "x", "a:999-1", "ghost ~1 ~1", "999999999*( a:0-49 )"):
            desk = desk_with()
            self.assert_says(desk, "part x " + text, "ok")
            self.assert_says(desk, "list a:1", "ok")
        desk = desk_with("part x y", "part y x")
        self.assertEqual(refusal_of(desk.say, "list x"), ("NoName", "x"))

    def test_no_name(self):
        for name in ("X", "abcdefghi", "a1", "", "a:1", "~1", "-(", "\u00e4"):
            self.assert_refused(f"part {name} a:1", ("NoName", name))

    def test_no_list(self):
        self.assert_refused("part tail ", ("NoList", 0))
        self.assert_refused("part tail a:1 ", ("NoList", 1))
        self.assert_refused("part tail  a:1", ("NoList", 0))
        self.assert_refused("part tail a:1  a:2", ("NoList", 1))
        self.assert_refused("part tail a:1 2*( b:1", ("NoList", 3))
        self.assert_refused("part tail a:1 a:1-1", ("NoList", 1))

    def test_no_name_ahead_of_no_list(self):
        self.assert_refused("part X X", ("NoName", "X"))
        self.assert_refused("part  ", ("NoName", ""))

    def test_what_is_refused_leaves_the_part(self):
        desk = desk_with("part x a:3")
        self.assertEqual(refusal_of(desk.say, "part x a:4 )"), ("NoList", 1))
        desk.say("list x")
        self.assert_says(desk, "strips", "a:3")

    def test_called_like_a_reel(self):
        desk = desk_with("part a b:7", "list a a:1")
        self.assert_says(desk, "strips", "b:7 a:1")


class Lists(DeskTest):
    def test_played(self):
        desk = desk_with()
        self.assert_says(desk, FILM, "ok")
        self.assert_says(desk, "length", "9")
        self.assert_says(desk, "list -( 2*( tail ) )", "ok")
        self.assert_says(desk, "strips", "b:6-5 a:39-30 b:6-5 a:39-30")

    def test_told_anew_the_bench_is_another_one(self):
        desk = desk_with(FILM, "list b:7")
        self.assert_says(desk, "strips", "b:7")
        self.assert_says(desk, "prints", "0")
        self.assert_says(desk, "drop 0 1", "")

    def test_no_list(self):
        self.assert_refused("list ", ("NoList", 0), FILM)
        self.assert_refused("list  ", ("NoList", 0), FILM)
        self.assert_refused("list  a:1", ("NoList", 0), FILM)
        self.assert_refused("list a:1 ", ("NoList", 1), FILM)
        self.assert_refused("list a:1 2*(", ("NoList", 2), FILM)
        self.assert_refused("list nobody:1 )", ("NoList", 1), FILM)

    def test_not_sound(self):
        self.assert_refused("list nobody:1", ("NoName", "nobody"), FILM)
        self.assert_refused("list a:1 ghost", ("NoName", "ghost"), FILM)
        self.assert_refused("list a:50", ("NoFrame", "a", 50), FILM)
        self.assert_refused("list a:3-50", ("NoFrame", "a", 50), FILM)
        self.assert_refused("list ~1 a:3", ("NoFade",), FILM)
        self.assert_refused("list a:3 ~1 ~1 a:4", ("NoFade",), FILM)

    def test_too_many(self):
        self.assert_refused("list 20*( 5*( a:1 ) ) a:1", ("TooMany",), FILM)
        self.assert_refused("list long:0-2000", ("TooMany",), FILM)
        self.assert_refused("list 999999999*( 999999999*( a:0 ) )", ("TooMany",), FILM)
        self.assert_refused("list 101*( a:0 ) nobody", ("NoName", "nobody"), FILM)
        self.assert_says(desk_with(), "list 20*( 5*( a:1 ) )", "ok")
        self.assert_says(desk_with(), "list long:0-1999", "ok")

    def test_too_short(self):
        self.assert_refused("list a:0 a:0-9 ~5 b:0-9 ~6 a:1-9", ("TooShort", 2), FILM)
        self.assert_refused("list a:0 ~2 b:0-9", ("TooShort", 0), FILM)


class Film(DeskTest):
    def test_length(self):
        self.assert_says(Desk(), "length", "0")
        self.assert_says(desk_with("list a:5"), "length", "1")
        self.assert_says(desk_with("list a:0-9 ~3 b:0-9 ~7 a:9-0"), "length", "20")

    def test_show(self):
        desk = desk_with(FILM)
        self.assert_says(desk, "show 0", "a:0 1/1")
        self.assert_says(desk, "show 2", "a:2 1/2, a:9 1/2")
        self.assert_says(desk, "show 3", "a:8 1/1")
        self.assert_says(desk, "show 8", "a:4 1/1")
        desk = desk_with("list a:0-2 ~2 b:5-9")
        self.assert_says(desk, "show 1", "a:1 2/3, b:5 1/3")
        self.assert_says(desk, "show 2", "a:2 1/3, b:6 2/3")

    def test_show_beyond_the_end(self):
        self.assert_refused("show 9", ("NoPlace",), FILM)
        self.assert_refused("show 10", ("NoPlace",), FILM)
        self.assert_refused("show 0", ("NoPlace",))
        self.assertEqual(refusal_of(Desk().say, "show 0"), ("NoPlace",))

    def test_strips(self):
        self.assert_says(desk_with(FILM), "strips", "a:0-2 a:9-6 a:2-4")
        self.assert_says(desk_with("list a:5 b:5 a:6-5"), "strips", "a:5 b:5 a:6-5")

    def test_prints_and_needs(self):
        desk = desk_with("spoil 1", FILM)
        self.assertIn(desk.say("prints"), ("0 0 1", "1 0 0"))
        self.assert_says(desk, "needs", "a=2")
        desk = desk_with("list long:5 b:3 a:5 b:3 a:9 b:3")
        self.assert_says(desk, "needs", "a=1 b=3 long=1")
        words = desk.say("prints").split(" ")
        self.assertEqual(sorted([words[1], words[3], words[5]]), ["0", "1", "2"])

    def test_why(self):
        desk = desk_with("spoil 1", "list a:9-7 b:5 a:0-6")
        self.assert_says(desk, "why a", "7: 0 2")
        desk = desk_with("list a:5 b:5 a:5 b:5 a:5")
        self.assert_says(desk, "why a", "5: 0 2 4")
        self.assert_says(desk, "why b", "5: 1 3")

    def test_why_is_refused(self):
        self.assert_refused("why nobody", ("NoName", "nobody"), FILM)
        self.assert_refused("why ", ("NoName", ""), FILM)
        self.assert_refused("why A", ("NoName", "A"), FILM)
        self.assert_refused("why tail", ("NoName", "tail"), FILM)
        self.assert_refused("why b", ("NoPlace",), FILM)
        self.assert_refused("why a", ("NoPlace",))
        self.assertEqual(refusal_of(Desk().say, "why a"), ("NoName", "a"))

    def test_rolls(self):
        desk = desk_with("list a:0-2 ~2 b:0-4 ~1 a:9-3 b:1")
        self.assert_says(desk, "rolls 2", "#0 +2 #2 +1 | +1 #1 +6 #3")
        self.assert_refused("rolls 3", ("TooShort", 1), "list a:0-2 ~2 b:0-4 ~1 a:9-3 b:1")
        self.assert_says(desk_with("list a:5"), "rolls 500", "#0 | +1")
        self.assert_says(desk_with("list a:5 ~1 a:5"), "rolls 0", "#0 | #1")

    def test_rolls_of_more_than_nine_strips(self):
        told = desk_with("list 6*( a:0-9 b:5-14 )").say("rolls 10")
        self.assertEqual(told, "#0 +10 #2 +10 #4 +10 #6 +10 #8 +10 #10 +10 | +10 #1 +10 #3 +10 #5 +10 #7 +10 #9 +10 #11")

    def test_key(self):
        desk = desk_with()
        self.assert_says(desk, "key a 0", "AB0006+04")
        self.assert_says(desk, "key b 59", "AB0010+09")
        self.assert_refused("key a 50", ("NoFrame", "a", 50))
        self.assert_refused("key nobody 0", ("NoName", "nobody"))
        self.assert_refused("key  0", ("NoName", ""))

    def test_over(self):
        desk = desk_with()
        self.assert_says(desk, "over a b a:10-49 2*( a:12 -( b:7 tail ) ) ~3", "b:0-39 2*( b:2 -( b:7 tail ) ) ~3")
        self.assert_says(desk, "over b a b:0", "a:10")
        self.assert_says(desk, "over a a a:10 nobody:3 ghost", "a:10 nobody:3 ghost")

    def test_over_leaves_the_parts(self):
        """Parts are not looked at: the part that is brought over by no list would be refused."""
        desk = desk_with("part low a:3", "over a b a:10 low", "list low")
        self.assert_says(desk, "strips", "a:3")

    def test_over_is_refused(self):
        self.assert_refused("over nobody b a:1 ", ("NoList", 1))
        self.assert_refused("over nobody b ", ("NoList", 0))
        self.assert_refused("over   ", ("NoList", 0))
        self.assert_refused("over nobody noone a:10", ("NoName", "nobody"))
        self.assert_refused("over a nobody a:10", ("NoName", "nobody"))
        self.assert_refused("over  b a:10", ("NoName", ""))
        self.assert_refused("over a  a:10", ("NoName", ""))
        self.assert_refused("over a b a:9", ("NoFrame", "b", None))
        self.assert_refused("over a b a:50", ("NoFrame", "a", 50))
        self.assert_refused("over a b a:10-50", ("NoFrame", "a", 50))

    def test_texts_of_nothing(self):
        for desk in (Desk(), desk_with(), desk_with(FILM, "spoil 3"), desk_with("list a:5", "drop 0 1")):
            for row in ("strips", "prints", "needs", "drop 0 0"):
                self.assert_says(desk, row, "")
            for row in ("rolls 0", "rolls 500"):
                self.assert_says(desk, row, " | ")
            self.assert_says(desk, "length", "0")


class Spoil(DeskTest):
    def test_0_at_first(self):
        self.assert_says(desk_with("list a:0-4 b:0 a:5-9"), "needs", "a=1 b=1")

    def test_empties_the_bench(self):
        desk = desk_with(FILM)
        self.assert_says(desk, "spoil 0", "ok")
        self.assertEqual(answers(desk), answers(desk_with()))

    def test_stays_for_lists_to_come(self):
        desk = desk_with("spoil 1", "list a:5", "list a:0-4 b:0 a:5-9")
        self.assert_says(desk, "needs", "a=2 b=1")
        self.assert_says(desk, "spoil 50", "ok")
        desk.say("list a:0 b:0 a:49")
        self.assert_says(desk, "needs", "a=2 b=1")
        desk.say("spoil 48")
        desk.say("list a:0 b:0 a:49")
        self.assert_says(desk, "needs", "a=1 b=1")

    def test_reels_and_parts_stay(self):
        desk = desk_with("spoil 3", "list tail long:1")
        self.assert_says(desk, "length", "11")

    def test_what_is_refused_leaves_it(self):
        desk = desk_with("spoil 1")
        self.assertEqual(refusal_of(desk.say, "spoil 00"), ("NoRow",))
        self.assertEqual(refusal_of(desk.say, "list a:0 ~1"), ("NoFade",))
        desk.say("list a:0-4 b:0 a:5-9")
        self.assert_says(desk, "needs", "a=2 b=1")


class Drop(DeskTest):
    def test_told(self):
        desk = desk_with("list a:0-4 b:0 a:5-9 b:7")
        self.assert_says(desk, "drop 1 1", "0")
        self.assert_says(desk, "strips", "a:0-9 b:7")
        self.assert_says(desk, "drop 2 1", "")
        self.assert_says(desk, "drop 1 1", "0")
        self.assert_says(desk, "drop 0 1", "")
        self.assert_says(desk, "length", "0")

    def test_several_numbers(self):
        desk = desk_with("list a:6 b:5 a:5-6 a:5-4 b:7")
        self.assert_says(desk, "strips", "a:6 b:5 a:5-6 a:5-4 b:7")
        self.assert_says(desk, "drop 1 1", "0 1")
        self.assert_says(desk, "strips", "a:6-5 a:6-4 b:7")

    def test_refused(self):
        self.assert_refused("drop 5 0", ("NoPlace",), FILM)
        self.assert_refused("drop 0 5", ("NoPlace",), FILM)
        self.assert_refused("drop 4 1", ("NoPlace",), FILM)
        self.assert_refused("drop 0 1", ("NoFade",), FILM)
        self.assert_refused("drop 1 1", ("TooShort", 0), "list a:0 b:0-9 ~3 a:0-9")
        self.assertEqual(refusal_of(Desk().say, "drop 0 1"), ("NoPlace",))
        self.assert_says(Desk(), "drop 0 0", "")

    def test_prints_are_kept(self):
        """Heaps that are the same keep their prints; the desk tells those of its bench."""
        desk = desk_with("list a:0-6 b:0 a:4-9 b:2 long:0-5 b:4 long:3-9")
        desk.say("drop 0 1")
        words = desk.say("prints").split(" ")
        self.assertEqual(words[1], "0")
        self.assertEqual(sorted([words[3], words[5]]), ["0", "1"])


class Errors(DeskTest):
    def test_all_stand_under_one(self):
        for row, error in (("x", NoRow), ("reel x AB 5", NoKey), ("reel X AB0000+00 5", NoReel), ("part X a", NoName),
                           ("list a:50", NoFrame), ("list (", NoList), ("list ~1", NoFade), ("list long:0-2000", TooMany),
                           ("list a:1 ~2 a:1", TooShort), ("show 0", NoPlace)):
            with self.assertRaises(error):
                desk_with().say(row)
            with self.assertRaises(SpliceError):
                desk_with().say(row)

    def test_two_desks_are_two(self):
        one = desk_with(FILM)
        other = Desk()
        self.assertEqual(refusal_of(other.say, "list a:1"), ("NoName", "a"))
        other.say("reel a ZZ0000+00 3")
        self.assert_says(one, "key a 0", "AB0006+04")
        self.assert_says(Desk(), "length", "0")


class PlainDesk:
    """A desk that answers by the functions, with nothing but the reels, the parts, the SPOIL and a bench."""

    def __init__(self):
        self.reels = []
        self.parts = {}
        self.spoil = 0
        self.bench = Bench([], 0)

    def fill(self, text):
        clips = played(read_list(text), self.parts, self.reels)
        self.bench = Bench(self.reels, self.spoil)
        self.bench.change(0, 0, clips)

    def answers(self):
        clips = self.bench.clips()
        strips = self.bench.strips()
        told = {"length": str(length(clips)), "strips": show_list(tuple(("clip",) + strip[:3] for strip in strips)),
                "prints": " ".join(map(str, self.bench.prints())),
                "needs": " ".join("%s=%d" % row for row in needs(strips, self.spoil))}
        for moment, frames in enumerate(shown(clips)):
            told[f"show {moment}"] = ", ".join("%s:%d %d/%d" % frame for frame in frames)
        for reel, frame, numbers in reasons(strips, self.spoil):
            told[f"why {reel}"] = f"{frame}: " + " ".join(map(str, numbers))
        for leader in range(4):
            if not refusal_of(rolls, strips, leader):
                sides = [" ".join({"leader": "+%d", "strip": "#%d"}[kind] % number for kind, number in roll)
                         for roll in rolls(strips, leader)]
                told[f"rolls {leader}"] = sides[0] + " | " + sides[1]
        for name, _, _, many in self.reels:
            told[f"key {name} {many - 1}"] = show_key(key_of(self.reels, name, many - 1))
        return told


class ManyRows(DeskTest):
    def test_the_answers_are_those_of_the_functions(self):
        chance = random.Random(31)
        dropped = 0
        for _ in range(60):
            desk = Desk()
            plain = PlainDesk()
            for name, start, many in (("a", 100, 50), ("b", 110, 60)):
                desk.say(f"reel {name} {show_key(('AB', start))} {many}")
                plain.reels.append((name, "AB", start, many))
            for _ in range(12):
                dropped += self.step(chance, desk, plain)
                for row, answer in plain.answers().items():
                    self.assert_says(desk, row, answer)
        self.assertGreater(dropped, 50)

    def step(self, chance, desk, plain):
        """One row told to both; whether it was a drop that was not refused."""
        kind = chance.choice(("part", "spoil", "list", "list", "drop", "drop", "drop"))
        text = drawn_text(chance) + chance.choice(("", "", " x", " ~1 y", " )", " ~1", " 2*( y x )"))
        if kind == "part":
            name = chance.choice("xy")
            if refusal_of(desk.say, f"part {name} {text}") is None:
                plain.parts[name] = read_list(text)
        elif kind == "spoil":
            plain.spoil = chance.choice((0, 1, 3))
            desk.say(f"spoil {plain.spoil}")
            plain.bench = Bench(plain.reels, plain.spoil)
        elif kind == "list":
            self.assertEqual(refusal_of(desk.say, f"list {text}"), refusal_of(plain.fill, text), text)
        else:
            at = chance.randint(0, len(plain.bench.clips()))
            try:
                told = plain.bench.change(at, 1, [])
            except SpliceError:
                self.assertIsNotNone(refusal_of(desk.say, f"drop {at} 1"))
                return False
            self.assert_says(desk, f"drop {at} 1", " ".join(map(str, told)))
            return True
        return False

    def test_over_is_that_of_the_function(self):
        chance = random.Random(32)
        desk = desk_with()
        reels = [("a", "AB", 100, 50), ("b", "AB", 110, 60)]
        some = 0
        for _ in range(500):
            text = drawn_text(chance).replace("a:", "a:1")
            one, other = chance.choice((("a", "b"), ("b", "a"), ("a", "a"), ("a", "nobody")))
            due = refusal_of(brought_over, read_list(text), {}, reels, one, other)
            if due:
                self.assertEqual(refusal_of(desk.say, f"over {one} {other} {text}"), due)
            else:
                some += 1
                told = brought_over(read_list(text), {}, reels, one, other)
                self.assert_says(desk, f"over {one} {other} {text}", show_list(told[0]))
        self.assertGreater(some, 200)

    def test_prints_of_a_list_are_good_ones(self):
        desk = desk_with("spoil 2", FILM)
        strips = strips_of(played(read_list(FILM[5:]), {}, [("a", "AB", 100, 50)]))
        self.assertEqual(sorted(desk.say("prints").split(" ")), sorted(map(str, prints_for(strips, 2))))

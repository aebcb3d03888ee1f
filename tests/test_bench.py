"""Points 28, 29 and 30, point 13 where a bench refuses by it, and point 4 of them: changes."""

import copy
import itertools
import random
import unittest

from leadersplice.bench import Bench
from leadersplice.errors import NoFade, NoFrame, NoName, NoPlace, SpliceError, TooMany, TooShort
from leadersplice.prints import cuts, needs, prints_for, reasons
from leadersplice.strips import frames_of, strips_of
from tests.helper import frames_with_fades, heaps, most_at_once, refusal_of, wanted

REELS = [("a", "AB", 100, 60), ("b", "AB", 0, 60), ("long", "LL", 0, 5000)]


def bench_with(clips, spoil=0):
    bench = Bench(REELS, spoil)
    bench.change(0, 0, clips)
    return bench


def kept_of(bench):
    return (bench.clips(), bench.strips(), bench.prints())


def prints_by_strip(bench):
    return dict(zip(bench.strips(), bench.prints()))


class BenchTest(unittest.TestCase):
    def assert_least(self, bench, spoil):
        """The strips are those of the clips, and their prints all that point 20 asks for."""
        strips = bench.strips()
        prints = bench.prints()
        self.assertEqual(strips, strips_of(bench.clips()))
        self.assertEqual(len(prints), len(strips))
        for heap in heaps(strips, spoil):
            most = most_at_once([strips[k] for k in heap], spoil)
            self.assertEqual({prints[k] for k in heap}, set(range(most)), (strips, prints, spoil))
        for one, other in itertools.combinations(range(len(strips)), 2):
            if wanted(strips[one], spoil) & wanted(strips[other], spoil):
                self.assertNotEqual(prints[one], prints[other], (strips, prints, spoil))
        names = sorted({strip[0] for strip in strips})
        used = [(name, len({prints[k] for k, strip in enumerate(strips) if strip[0] == name})) for name in names]
        self.assertEqual(used, needs(strips, spoil))
        self.assertEqual(used, [(reel, len(numbers)) for reel, _, numbers in reasons(strips, spoil)])

    def assert_refused(self, bench, change, refusal):
        before = kept_of(bench)
        self.assertEqual(refusal_of(bench.change, *change), refusal, change)
        self.assertEqual(kept_of(bench), before, change)
        # Nor does it show in what is told of a change behind it.
        self.assertEqual(bench.change(0, 0, []), [])
        self.assertEqual(kept_of(bench), before, change)


class Made(BenchTest):
    def test_at_first_there_is_nothing(self):
        bench = Bench(REELS, 3)
        self.assertEqual(kept_of(bench), ([], [], []))
        self.assertEqual(bench.change(0, 0, []), [])
        self.assertEqual(kept_of(bench), ([], [], []))

    def test_filled(self):
        bench = Bench(REELS, 1)
        clips = [("a", 0, 2, 0), ("a", 9, 9, 1), ("a", 8, 6, 0), ("a", 2, 4, 0)]
        self.assertEqual(bench.change(0, 0, clips), [0, 1, 2])
        self.assertEqual(bench.clips(), clips)
        self.assertEqual(bench.strips(), [("a", 0, 2, 0), ("a", 9, 6, 1), ("a", 2, 4, 0)])
        self.assert_least(bench, 1)
        self.assertEqual(sorted(bench.prints()), [0, 0, 1])

    def test_kinds(self):
        bench = bench_with([("a", 0, 2, 0), ("b", 9, 9, 1)])
        for told in (bench.clips(), bench.strips(), bench.prints(), bench.change(0, 0, [])):
            self.assertIs(type(told), list)
        for thing in bench.clips() + bench.strips():
            self.assertIs(type(thing), tuple)
        self.assertEqual([type(number) for number in bench.prints() + bench.change(0, 1, [("a", 0, 2, 0)])], [int] * 3)

    def test_no_reels(self):
        bench = Bench([], 0)
        self.assertEqual(bench.change(0, 0, []), [])
        self.assert_refused(bench, (0, 0, [("a", 0, 0, 0)]), ("NoName", "a"))

    def test_the_spoil_counts(self):
        clips = [("a", 0, 4, 0), ("a", 6, 9, 0)]
        self.assertEqual(bench_with(clips, 0).prints(), [0, 0])
        self.assertEqual(bench_with(clips, 1).prints(), [0, 0])
        self.assertEqual(sorted(bench_with(clips, 2).prints()), [0, 1])
        self.assertEqual(sorted(bench_with(clips, 50).prints()), [0, 1])


class Places(BenchTest):
    CLIPS = [("a", 0, 4, 0), ("b", 0, 4, 0), ("a", 10, 14, 0), ("b", 10, 14, 0)]
    NEW = [("a", 30, 34, 0), ("b", 30, 34, 0)]

    def assert_changed(self, at, many, told):
        bench = bench_with(self.CLIPS)
        self.assertEqual(bench.change(at, many, self.NEW), told)
        self.assertEqual(bench.clips(), self.CLIPS[:at] + self.NEW + self.CLIPS[at + many:])
        self.assertEqual(bench.strips(), bench.clips())
        self.assert_least(bench, 0)

    def test_at_the_begin(self):
        self.assert_changed(0, 0, [0, 1])
        self.assert_changed(0, 1, [0, 1])

    def test_in_the_middle(self):
        self.assert_changed(1, 0, [1, 2])
        self.assert_changed(2, 1, [2, 3])
        self.assert_changed(1, 2, [1, 2])

    def test_at_the_end(self):
        self.assert_changed(4, 0, [4, 5])
        self.assert_changed(3, 1, [3, 4])
        self.assert_changed(2, 2, [2, 3])

    def test_of_all(self):
        self.assert_changed(0, 4, [0, 1])
        bench = bench_with(self.CLIPS)
        self.assertEqual(bench.change(0, 4, []), [])
        self.assertEqual(kept_of(bench), ([], [], []))
        self.assertEqual(bench.change(0, 0, self.CLIPS), [0, 1, 2, 3])

    def test_of_nothing(self):
        for at in range(5):
            bench = bench_with(self.CLIPS)
            before = kept_of(bench)
            self.assertEqual(bench.change(at, 0, []), [])
            self.assertEqual(kept_of(bench), before)

    def test_taken_out(self):
        bench = bench_with(self.CLIPS)
        self.assertEqual(bench.change(1, 2, []), [])
        self.assertEqual(bench.strips(), [("a", 0, 4, 0), ("b", 10, 14, 0)])


class Refused(BenchTest):
    CLIPS = [("a", 0, 9, 0), ("b", 0, 9, 3), ("a", 10, 14, 0)]

    def refused(self, at, many, clips, *refusal):
        self.assert_refused(bench_with(self.CLIPS), (at, many, clips), refusal)

    def test_no_place(self):
        for at, many in ((-1, 0), (-1, 1), (0, -1), (3, -1), (-1, -1), (-3, 2), (4, 0), (0, 4), (3, 1), (1, 3), (2, 2),
                         (4, -1), (5, -2), (10 ** 9, 0), (0, 10 ** 9)):
            self.refused(at, many, [], "NoPlace")
            self.refused(at, many, [("b", 0, 0, 0)], "NoPlace")
        empty = Bench(REELS, 0)
        for at, many in ((0, 1), (1, 0), (1, -1), (-1, 0), (-1, 1)):
            self.assert_refused(empty, (at, many, []), ("NoPlace",))

    def test_no_name(self):
        self.refused(0, 0, [("nobody", 0, 0, 0)], "NoName", "nobody")
        self.refused(3, 0, [("a", 0, 0, 0), ("", 0, 0, 0)], "NoName", "")

    def test_no_frame(self):
        self.refused(0, 0, [("a", 60, 59, 0)], "NoFrame", "a", 60)
        self.refused(0, 0, [("a", 59, 60, 0)], "NoFrame", "a", 60)
        self.refused(0, 0, [("a", 70, 60, 0)], "NoFrame", "a", 70)
        self.refused(0, 0, [("b", 160000, 160000, 0)], "NoFrame", "b", 160000)
        self.refused(3, 0, [("long", 0, 5000, 0)], "NoFrame", "long", 5000)

    def test_below_0_there_is_no_frame_either(self):
        self.refused(0, 0, [("a", -1, 5, 0)], "NoFrame", "a", -1)
        self.refused(0, 0, [("a", 5, -1, 0)], "NoFrame", "a", -1)
        self.refused(0, 0, [("a", -1, -2, 0)], "NoFrame", "a", -1)

    def test_clip_by_clip(self):
        self.refused(0, 0, [("a", 0, 60, 0), ("nobody", 0, 0, 0)], "NoFrame", "a", 60)
        self.refused(0, 0, [("nobody", 0, 0, 0), ("a", 0, 60, 0)], "NoName", "nobody")
        self.refused(0, 0, [("nobody", 90, -9, 0)], "NoName", "nobody")
        self.refused(0, 0, [("b", 0, 59, 0), ("b", 61, 60, 0), ("b", 62, 0, 0)], "NoFrame", "b", 61)

    def test_too_many_clips(self):
        bench = bench_with([("a", 0, 0, 0)] * 97)
        self.assertEqual(bench.change(97, 0, [("b", 0, 0, 0)] * 3), [97, 98, 99])
        self.assertEqual(len(bench.clips()), 100)
        self.assert_refused(bench, (50, 0, [("b", 1, 1, 0)]), ("TooMany",))
        self.assert_refused(bench, (50, 1, [("b", 1, 1, 0)] * 2), ("TooMany",))
        self.assertEqual(bench.change(100, 0, []), [])
        bench.change(0, 100, [("b", 1, 1, 0)] * 100)
        self.assertEqual(bench.clips(), [("b", 1, 1, 0)] * 100)
        self.assert_refused(Bench(REELS, 0), (0, 0, [("a", 0, 0, 0)] * 101), ("TooMany",))

    def test_too_many_frames(self):
        bench = bench_with([("long", 0, 999, 0), ("long", 2999, 2001, 0)])
        self.assertEqual(bench.change(2, 0, [("b", 7, 7, 0)]), [2])
        self.assert_refused(bench, (0, 0, [("a", 0, 0, 0)]), ("TooMany",))
        self.assert_refused(bench, (2, 1, [("a", 0, 1, 0)]), ("TooMany",))
        # Frames that are shown two at a time are counted for both clips.
        self.assert_refused(bench, (2, 1, [("a", 0, 1, 2)]), ("TooMany",))
        self.assert_refused(Bench(REELS, 0), (0, 0, [("long", 0, 2000, 0)]), ("TooMany",))
        self.assertEqual(Bench(REELS, 0).change(0, 0, [("long", 2999, 1000, 0)]), [0])

    def test_too_short(self):
        self.refused(1, 0, [("a", 0, 1, 0)], "TooShort", 1)
        self.refused(1, 0, [("b", 0, 4, 3)], "TooShort", 1)
        self.refused(3, 0, [("b", 0, 9, 6)], "TooShort", 2)
        self.refused(3, 0, [("b", 0, 3, 5)], "TooShort", 3)
        self.refused(3, 0, [("b", 0, 3, 6)], "TooShort", 2)
        self.refused(2, 1, [("b", 0, 9, 8)], "TooShort", 1)

    def test_too_short_by_what_is_taken_out(self):
        bench = bench_with([("a", 0, 1, 0), ("b", 0, 9, 0), ("a", 10, 19, 5)])
        self.assert_refused(bench, (1, 1, []), ("TooShort", 0))

    def test_no_fade(self):
        self.refused(0, 1, [], "NoFade")
        self.refused(0, 0, [("b", 0, 9, 1)], "NoFade")
        self.refused(0, 3, [("b", 0, 9, 10)], "NoFade")
        self.assert_refused(Bench(REELS, 0), (0, 0, [("b", 0, 0, 1)]), ("NoFade",))

    def test_the_first_clips_fade_is_counted_for_its_frames(self):
        self.refused(0, 0, [("b", 0, 9, 11)], "TooShort", 0)
        self.refused(0, 1, [("b", 0, 9, 8)], "TooShort", 0)
        self.refused(0, 1, [("b", 0, 9, 7)], "NoFade")
        bench = bench_with([("a", 0, 9, 0), ("b", 0, 9, 3), ("a", 0, 9, 7)])
        self.assert_refused(bench, (0, 1, []), ("NoFade",))

    def test_of_two_the_first_that_is_due(self):
        # NoPlace, the clips, TooMany, TooShort, NoFade, in this order.
        self.refused(4, 0, [("nobody", 0, 0, 0)], "NoPlace")
        self.refused(0, -1, [("a", 0, 0, 1)] * 200, "NoPlace")
        self.refused(0, 0, [("a", 0, 0, 1)] * 200 + [("a", 60, 0, 0)], "NoFrame", "a", 60)
        self.refused(0, 0, [("long", 0, 4000, 0), ("nobody", 0, 0, 0)], "NoName", "nobody")
        self.refused(0, 0, [("a", 0, 0, 9)] + [("a", 0, 0, 1)] * 200, "TooMany")
        self.refused(0, 0, [("long", 0, 1990, 1)], "TooMany")
        self.refused(0, 0, [("b", 0, 9, 1), ("b", 0, 9, 11)], "TooShort", 0)
        self.refused(0, 0, [("b", 0, 9, 1), ("b", 0, 9, 9), ("b", 0, 0, 2)], "TooShort", 1)

    def test_the_errors_are_those_of_the_program(self):
        bench = bench_with(self.CLIPS)
        for change, error in (((4, 0, []), NoPlace), ((0, 0, [("x", 0, 0, 0)]), NoName),
                              ((0, 0, [("a", 60, 0, 0)]), NoFrame), ((0, 0, [("a", 0, 0, 0)] * 100), TooMany),
                              ((3, 0, [("a", 0, 0, 2)]), TooShort), ((0, 1, []), NoFade)):
            with self.assertRaises(error):
                bench.change(*change)


class Strips(BenchTest):
    def test_kept_at_another_place(self):
        bench = bench_with([("a", 0, 4, 0), ("b", 0, 4, 0), ("a", 10, 14, 2)])
        self.assertEqual(bench.change(0, 0, [("b", 50, 40, 0), ("a", 50, 40, 0)]), [0, 1])
        self.assertEqual(bench.change(0, 3, []), [])
        self.assertEqual(bench.strips(), [("b", 0, 4, 0), ("a", 10, 14, 2)])

    def test_with_another_fade(self):
        bench = bench_with([("a", 0, 4, 0), ("b", 0, 4, 0), ("a", 10, 14, 0)])
        self.assertEqual(bench.change(1, 1, [("b", 0, 4, 2)]), [1])
        self.assertEqual(bench.change(1, 1, [("b", 0, 4, 3)]), [1])
        self.assertEqual(bench.change(1, 1, [("b", 0, 4, 0)]), [1])

    def test_put_in_anew_it_is_another_one(self):
        clips = [("a", 0, 4, 0), ("b", 0, 4, 0), ("a", 10, 14, 0)]
        bench = bench_with(clips)
        self.assertEqual(bench.change(1, 1, [clips[1]]), [1])
        self.assertEqual(bench.change(0, 3, clips), [0, 1, 2])
        self.assertEqual(bench.clips(), clips)

    def test_that_looks_like_one_taken_out(self):
        """The first of two strips that look alike is taken out; the other one is kept."""
        bench = bench_with([("a", 0, 4, 0), ("b", 0, 4, 0), ("a", 0, 4, 0)])
        self.assertEqual(bench.strips(), [("a", 0, 4, 0), ("b", 0, 4, 0), ("a", 0, 4, 0)])
        ahead = bench.prints()
        told = bench.change(0, 1, [])
        self.assertEqual(bench.prints(), [0, 0])
        # Its heap is another one, so it is cut anew; it is told if its print is another one now.
        self.assertEqual(told, [] if ahead[2] == 0 else [1])

    def test_put_together(self):
        bench = bench_with([("a", 0, 4, 0), ("b", 0, 4, 0), ("a", 5, 9, 0)])
        self.assertEqual(bench.change(1, 1, []), [0])
        self.assertEqual(bench.strips(), [("a", 0, 9, 0)])

    def test_split(self):
        bench = bench_with([("a", 0, 4, 0), ("a", 5, 9, 0), ("b", 0, 4, 0)])
        self.assertEqual(bench.strips(), [("a", 0, 9, 0), ("b", 0, 4, 0)])
        self.assertEqual(bench.change(1, 0, [("b", 30, 34, 0)]), [0, 1, 2])
        self.assertEqual(bench.strips(), [("a", 0, 4, 0), ("b", 30, 34, 0), ("a", 5, 9, 0), ("b", 0, 4, 0)])

    def test_gone_on_with(self):
        bench = bench_with([("a", 0, 4, 0), ("b", 0, 4, 0)])
        self.assertEqual(bench.change(1, 0, [("a", 5, 5, 0)]), [0])
        self.assertEqual(bench.strips(), [("a", 0, 5, 0), ("b", 0, 4, 0)])
        self.assertEqual(bench.change(1, 1, []), [0])

    def test_with_its_middle_taken_out_and_put_in(self):
        """First and last frame of the strip are the same ones, but not all between."""
        bench = bench_with([("a", 0, 4, 0), ("a", 5, 6, 0), ("a", 7, 9, 0), ("b", 0, 4, 0)])
        self.assertEqual(bench.change(1, 1, [("a", 5, 6, 0)]), [0])
        self.assertEqual(bench.strips(), [("a", 0, 9, 0), ("b", 0, 4, 0)])

    def test_a_clip_that_lies_on_two_strips(self):
        bench = bench_with([("a", 5, 5, 0), ("a", 4, 9, 0), ("b", 0, 4, 0)])
        self.assertEqual(bench.strips(), [("a", 5, 4, 0), ("a", 5, 9, 0), ("b", 0, 4, 0)])
        told = bench.change(0, 1, [])
        self.assertEqual(bench.strips(), [("a", 4, 9, 0), ("b", 0, 4, 0)])
        self.assertEqual(told, [0])

    def test_behind_the_change_another_division(self):
        """One frame ahead makes the strips behind it begin elsewhere."""
        bench = bench_with([("a", 5, 6, 0), ("a", 5, 4, 0), ("b", 0, 4, 0)])
        self.assertEqual(bench.strips(), [("a", 5, 6, 0), ("a", 5, 4, 0), ("b", 0, 4, 0)])
        told = bench.change(0, 0, [("a", 6, 6, 0)])
        self.assertEqual(bench.strips(), [("a", 6, 5, 0), ("a", 6, 4, 0), ("b", 0, 4, 0)])
        self.assertEqual(told, [0, 1])


class Prints(BenchTest):
    # Two heaps of a, apart from one another: one with two strips at once, one with three.
    PAIR = [("a", 0, 6, 0), ("b", 0, 0, 0), ("a", 4, 9, 0)]
    THREE = [("b", 2, 2, 0), ("a", 30, 40, 0), ("b", 4, 4, 0), ("a", 35, 45, 0), ("b", 6, 6, 0), ("a", 40, 50, 0)]

    def test_a_heap_that_is_the_same_keeps_them(self):
        bench = bench_with(self.PAIR + self.THREE)
        ahead = prints_by_strip(bench)
        for change, told in (((9, 0, [("b", 8, 8, 0), ("a", 20, 25, 0)]), [9, 10]), ((0, 0, [("b", 10, 10, 0)]), [0])):
            self.assertEqual(bench.change(*change), told)
            self.assert_least(bench, 0)
            self.assertEqual({strip: prints_by_strip(bench)[strip] for strip in ahead}, ahead)

    def test_strips_with_one_least_frame_keep_them(self):
        """Either of the two could be on print 0; the one that is stays there."""
        bench = bench_with([("a", 30, 34, 0), ("b", 0, 0, 0), ("a", 30, 39, 0)])
        bench.change(0, 0, [("a", 39, 37, 0), ("b", 5, 5, 0)])
        self.assert_least(bench, 0)
        ahead = bench.prints()
        self.assertEqual(bench.change(0, 0, [("a", 0, 5, 0), ("b", 7, 7, 0)]), [0, 1])
        self.assertEqual(bench.prints()[2:], ahead)

    def test_cut_anew_with_a_strip_more(self):
        bench = bench_with(self.PAIR)
        told = bench.change(3, 0, [("b", 2, 2, 0), ("a", 5, 5, 0)])
        self.assert_least(bench, 0)
        self.assertEqual(needs(bench.strips(), 0), [("a", 3), ("b", 1)])
        self.assertEqual([number for number in told if number > 2], [3, 4])

    def test_cut_anew_with_a_strip_less(self):
        for number in (0, 2):
            bench = bench_with(self.PAIR)
            ahead = prints_by_strip(bench)[self.PAIR[2 - number]]
            told = bench.change(number, 1, [])
            self.assert_least(bench, 0)
            self.assertEqual(bench.prints(), [0, 0])
            place = bench.strips().index(self.PAIR[2 - number])
            self.assertEqual(told, [] if ahead == 0 else [place])

    def test_a_heap_that_falls_apart(self):
        """Without the strip between them the other two hang together no more, and each is on print 0."""
        clips = [("a", 0, 6, 0), ("b", 0, 0, 0), ("a", 5, 12, 0), ("b", 2, 2, 0), ("a", 11, 20, 0)]
        for order in itertools.permutations((0, 2, 4)):
            row = list(clips)
            for place, taken in zip((0, 2, 4), order):
                row[place] = clips[taken]
            bench = bench_with(row)
            bench.change(row.index(clips[2]), 1, [])
            self.assert_least(bench, 0)
            self.assertEqual(bench.prints(), [0] * 4)

    def test_two_heaps_that_come_together(self):
        bench = bench_with([("a", 0, 6, 0), ("b", 0, 0, 0), ("a", 11, 20, 0)])
        self.assertEqual(bench.prints(), [0, 0, 0])
        told = bench.change(3, 0, [("b", 2, 2, 0), ("a", 12, 5, 0)])
        self.assert_least(bench, 0)
        prints = bench.prints()
        self.assertEqual(prints[0], prints[2])
        self.assertNotEqual(prints[0], prints[4])
        self.assertEqual([number for number in (3, 4) if number not in told], [])

    def test_hang_together_by_what_is_spoiled_alone(self):
        bench = bench_with([("a", 0, 6, 0), ("b", 0, 0, 0), ("a", 11, 20, 0)], 4)
        self.assertEqual(bench.prints(), [0, 0, 0])
        bench = bench_with([("a", 0, 6, 0), ("b", 0, 0, 0), ("a", 11, 20, 0)], 5)
        self.assert_least(bench, 5)
        self.assertEqual(sorted([bench.prints()[0], bench.prints()[2]]), [0, 1])
        bench.change(0, 2, [])
        self.assertEqual(bench.prints(), [0])

    def test_told_is_each_strip_whose_print_is_another_one(self):
        """A strip on a print above 0 that comes to be alone is told, though it is kept."""
        bench = bench_with(self.PAIR)
        high = bench.prints().index(1)
        low = 2 - high
        told = bench.change(low, 1, [])
        place = bench.strips().index(self.PAIR[high])
        self.assertEqual(bench.prints()[place], 0)
        self.assertEqual(told, [place])

    def test_the_cuts_are_those_of_the_prints(self):
        bench = bench_with(self.PAIR + self.THREE, 2)
        bench.change(1, 1, [])
        told = []
        for reel, many in needs(bench.strips(), 2):
            for number in range(many):
                row = cuts(bench.strips(), bench.prints(), reel, number)
                for ahead, after in zip(row, row[1:]):
                    self.assertGreater(after[0] - ahead[1], 2)
                told += [cut[2] for cut in row]
        self.assertEqual(sorted(told), list(range(len(bench.strips()))))


class Plainer:
    """A second, plainer way of reckoning: each frame put in is a thing of its own, that stays as long as it is there."""

    def __init__(self, spoil):
        self.spoil = spoil
        self.clips = []
        self.strips = []
        self.made = 0

    def change(self, at, many, clips):
        put_in = []
        for clip in clips:
            row = [(reel, number, fade, self.made + k)
                   for k, (reel, number, fade) in enumerate(frames_with_fades([clip]))]
            self.made += len(row)
            put_in.append(row)
        self.clips = self.clips[:at] + put_in + self.clips[at + many:]
        ahead = self.strips
        self.strips = self.taken()
        return ahead

    def taken(self):
        """Strips as lists of frames."""
        strips = []
        for frame in [frame for clip in self.clips for frame in clip]:
            if strips and not frame[2] and self.goes_on(strips[-1], frame):
                strips[-1].append(frame)
            else:
                strips.append([frame])
        return strips

    def goes_on(self, strip, frame):
        steps = {after[1] - before[1] for before, after in zip(strip + [frame], (strip + [frame])[1:])}
        return frame[0] == strip[0][0] and steps in ({1}, {-1})

    def hang_together(self, strips):
        """For each strip those that it hangs together with, itself among them."""
        frames = [{(strip[0][0], frame[1]) for frame in strip} for strip in strips]
        for row in frames:
            reel, top = max(row)
            row.update((reel, top + k) for k in range(1, self.spoil + 1))
        near = [{k for k, row in enumerate(frames) if row & other} for other in frames]
        for _ in strips:
            near = [set().union(*[near[k] for k in row]) for row in near]
        return [[strips[k] for k in sorted(row)] for row in near]


class ManyChanges(BenchTest):
    def test_against_a_plainer_way(self):
        chance = random.Random(29)
        seen = {"kept": 0, "told": 0, "told though kept": 0, "cut anew, the same print": 0, "refused": 0}
        for _ in range(150):
            spoil = chance.choice((0, 0, 1, 3, 50))
            bench = Bench(REELS, spoil)
            plainer = Plainer(spoil)
            for _ in range(12):
                self.change_both(chance, bench, plainer, seen)
                self.assert_least(bench, spoil)
        self.assertGreater(min(seen.values()), 100, seen)

    def drawn_change(self, chance, many):
        at = chance.randint(0, many)
        clips = []
        for _ in range(chance.choice((0, 1, 1, 2, 3))):
            first = chance.randrange(30)
            last = min(max(first + chance.choice((-8, -2, -1, 0, 1, 2, 8)), 0), 59)
            fade = chance.choice((0, 0, 0, 1, 2))
            clips.append((chance.choice("ab"), first, last, fade))
        return (at, chance.randint(0, min(many - at, chance.choice((0, 1, 2, 9)))), clips)

    def change_both(self, chance, bench, plainer, seen):
        before = kept_of(bench)
        at, many, clips = self.drawn_change(chance, len(before[0]))
        try:
            told = bench.change(at, many, clips)
        except SpliceError:
            seen["refused"] += 1
            self.assertEqual(kept_of(bench), before)
            return
        ahead = plainer.change(at, many, clips)
        self.assertEqual(told, self.told_due(plainer, ahead, before[2], bench, seen))

    def told_due(self, plainer, ahead, prints_ahead, bench, seen):
        prints = bench.prints()
        due = []
        heaps_ahead = plainer.hang_together(ahead)
        heaps_now = plainer.hang_together(plainer.strips)
        self.assertEqual([[frame[:2] for frame in strip] for strip in plainer.strips],
                         [[(strip[0], number) for number in frames_of(strip)] for strip in bench.strips()])
        for number, strip in enumerate(plainer.strips):
            if strip not in ahead:
                due.append(number)
                seen["told"] += 1
                continue
            old = ahead.index(strip)
            if heaps_ahead[old] == heaps_now[number]:
                self.assertEqual(prints[number], prints_ahead[old])
                seen["kept"] += 1
            elif prints[number] != prints_ahead[old]:
                due.append(number)
                seen["told though kept"] += 1
            else:
                seen["cut anew, the same print"] += 1
        return due


def refusal_due(clips, at, many, put_in):
    """Which refusal is due, by the words of point 28 one after the other; None where none is."""
    if at < 0 or many < 0 or len(clips) < at + many:
        return ("NoPlace",)
    frames = {name: range(count) for name, _, _, count in REELS}
    for reel, first, last, _ in put_in:
        if reel not in frames:
            return ("NoName", reel)
        for frame in (first, last):
            if frame not in frames[reel]:
                return ("NoFrame", reel, frame)
    row = clips[:at] + put_in + clips[at + many:]
    counts = [len(frames_with_fades([clip])) for clip in row]
    if len(row) > 100 or sum(counts) > 2000:
        return ("TooMany",)
    for number, count in enumerate(counts):
        if count < sum(clip[3] for clip in row[number:number + 2]):
            return ("TooShort", number)
    return ("NoFade",) if row and row[0][3] else None


class ManyRefusals(BenchTest):
    def test_the_one_that_is_due(self):
        chance = random.Random(30)
        seen = {}
        for _ in range(120):
            bench = Bench(REELS, chance.choice((0, 2)))
            for _ in range(15):
                before = kept_of(bench)
                change = self.drawn_change(chance, len(before[0]))
                due = refusal_due(before[0], *change)
                self.assertEqual(refusal_of(bench.change, *change), due, (before[0], change))
                if due:
                    self.assertEqual(kept_of(bench), before)
                name = due[0] if due else None
                seen[name] = seen.get(name, 0) + 1
        self.assertEqual(len(seen), 7)
        self.assertGreater(min(seen.values()), 30, seen)

    def drawn_change(self, chance, many):
        at = chance.randint(0, many)
        clips = []
        names = ("a", "b", "long", "long", "x")[:chance.choice((4, 4, 4, 5))]
        for _ in range(chance.choice((0, 1, 2, 3, 40))):
            reel = chance.choice(names)
            first = chance.randrange(50)
            last = first + chance.choice((0, 1, 2, -2)) + (chance.choice((0, 20, 400)) if reel == "long" else 0)
            clips.append((reel, first, last, chance.choice((0, 0, 0, 0, 1, 2))))
        if chance.random() < 0.1:
            clips.append(("b", chance.choice((58, 59, 60, 61)), chance.choice((58, 59, 60, 61)), 0))
        if chance.random() < 0.1:
            at += chance.choice((-60, -1, 1, 60))
        return (at, chance.randint(0, max(min(many - at, 3), 0)) - (chance.random() < 0.03), clips)


class HandedIn(BenchTest):
    CLIPS = [("a", 0, 9, 0), ("b", 0, 9, 3), ("a", 5, 14, 0)]

    def test_all_stays(self):
        reels = list(REELS)
        clips = list(self.CLIPS)
        bench = Bench(reels, 1)
        bench.change(0, 0, clips)
        bench.change(1, 1, clips)
        refusal_of(bench.change, 9, 9, clips)
        self.assertEqual((reels, clips), (REELS, self.CLIPS))

    def test_later_changes_of_the_reels(self):
        reels = list(REELS)
        bench = Bench(reels, 1)
        reels.clear()
        bench.change(0, 0, self.CLIPS)
        reels.append(("new", "AB", 0, 5))
        self.assertEqual(refusal_of(bench.change, 0, 0, [("new", 0, 0, 0)]), ("NoName", "new"))

    def test_later_changes_of_the_clips(self):
        clips = list(self.CLIPS)
        bench = Bench(REELS, 1)
        bench.change(0, 0, clips)
        before = kept_of(bench)
        clips.clear()
        self.assertEqual(kept_of(bench), before)
        self.assertEqual(bench.change(0, 0, []), [])

    def test_the_clips_are_not_the_list_handed_in(self):
        """Neither where nothing stands ahead and behind."""
        clips = list(self.CLIPS)
        bench = Bench(REELS, 1)
        bench.change(0, 0, clips)
        bench.change(3, 0, [("b", 50, 55, 0)])
        self.assertEqual(clips, self.CLIPS)

    def test_what_is_told_belongs_to_the_asker(self):
        bench = bench_with(self.CLIPS, 1)
        before = copy.deepcopy(kept_of(bench))
        for told in (bench.clips(), bench.strips(), bench.prints(), bench.change(0, 0, [])):
            told.append(7)
            self.assertEqual(kept_of(bench), before)
            told.clear()
            self.assertEqual(kept_of(bench), before)
        self.assertEqual(bench.change(0, 0, []), [])

    def test_what_was_told_stays_behind_a_change(self):
        bench = bench_with(self.CLIPS, 1)
        told = kept_of(bench)
        before = copy.deepcopy(told)
        numbers = bench.change(1, 1, [("b", 20, 30, 0)])
        numbers_before = list(numbers)
        bench.change(0, 3, [])
        self.assertEqual(told, before)
        self.assertEqual(numbers, numbers_before)

    def test_two_benches_are_two(self):
        one = Bench(REELS, 0)
        other = Bench(REELS, 0)
        one.change(0, 0, self.CLIPS)
        self.assertEqual(kept_of(other), ([], [], []))

    def test_the_prints_of_a_filled_bench_are_good_ones(self):
        for spoil in (0, 1, 5, 50):
            bench = bench_with(self.CLIPS, spoil)
            self.assertEqual(max(bench.prints()), max(prints_for(bench.strips(), spoil)))
            self.assert_least(bench, spoil)

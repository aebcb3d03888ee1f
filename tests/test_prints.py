"""Points 19 to 22, and point 4 of them: prints, needs, reasons and cuts."""

import copy
import itertools
import random
import unittest

from leadersplice.listtexts import read_list, show_list
from leadersplice.lists import turned
from leadersplice.played import played
from leadersplice.prints import cuts, needs, prints_for, reasons
from leadersplice.strips import strips_of
from tests.helper import cuttings, drawn_clips, drawn_text, frames_with_fades, heaps, most_at_once, refusal_of, wanted

REELS = [("a", "AB", 100, 60), ("b", "AB", 0, 60)]
# One chain in which, taken in this order, each to the first print that is
# free for it, the last strip would come to a third print.
CHAIN = [("a", 0, 3, 0), ("a", 9, 12, 0), ("a", 3, 6, 0), ("a", 6, 9, 0)]


def fewest_prints(strips, spoil):
    """The least number of prints of each reel, all ways of sharing the strips out tried one after the other."""
    told = {}
    for reel in {strip[0] for strip in strips}:
        row = [wanted(strip, spoil) for strip in strips if strip[0] == reel]
        told[reel] = next(many for many in itertools.count(1) if can_share(row, [[] for _ in range(many)]))
    return told


def can_share(row, prints):
    if not row:
        return True
    for number, shared in enumerate(prints):
        if not any(row[0] & other for other in shared):
            if can_share(row[1:], prints[:number] + [shared + [row[0]]] + prints[number + 1:]):
                return True
        if not shared:
            break
    return False


class PrintsTest(unittest.TestCase):
    def assert_good(self, strips, spoil):
        """All that points 20 and 22 ask of any strips."""
        prints = prints_for(strips, spoil)
        self.assertEqual([type(number) for number in prints], [int] * len(strips))
        for heap in heaps(strips, spoil):
            most = most_at_once([strips[k] for k in heap], spoil)
            self.assertEqual({prints[k] for k in heap}, set(range(most)), (strips, spoil, prints))
        for one, other in itertools.combinations(range(len(strips)), 2):
            if wanted(strips[one], spoil) & wanted(strips[other], spoil):
                self.assertNotEqual(prints[one], prints[other], (strips, spoil))
        names = sorted({strip[0] for strip in strips})
        used = {name: {prints[k] for k, strip in enumerate(strips) if strip[0] == name} for name in names}
        self.assertEqual(needs(strips, spoil), [(name, len(used[name])) for name in names], (strips, spoil))
        self.assert_reasons(strips, spoil, names)
        for name in names:
            for number in used[name]:
                self.assertEqual(cuts(strips, prints, name, number), sorted(
                    (min(strip[1:3]), max(strip[1:3]), k) for k, strip in enumerate(strips)
                    if (strip[0], prints[k]) == (name, number)))

    def assert_reasons(self, strips, spoil, names):
        told = reasons(strips, spoil)
        self.assertEqual([reason[0] for reason in told], names)
        for name, frame, numbers in told:
            self.assertEqual(numbers, [k for k, strip in enumerate(strips) if (name, frame) in wanted(strip, spoil)])
            self.assertIn((name, len(numbers)), needs(strips, spoil))

    def assert_needs(self, strips, spoil, told):
        with self.subTest(strips=strips, spoil=spoil):
            self.assertEqual(needs(strips, spoil), told)
            self.assert_good(strips, spoil)


class TwoStrips(PrintsTest):
    def test_that_just_touch(self):
        for strips in ([("a", 0, 4, 0), ("a", 5, 9, 0)], [("a", 5, 9, 0), ("a", 0, 4, 0)],
                       [("a", 4, 0, 0), ("a", 9, 5, 2)], [("a", 4, 4, 0), ("a", 5, 5, 0)]):
            self.assert_needs(strips, 0, [("a", 1)])
            self.assert_needs(strips, 1, [("a", 2)])
            self.assert_needs(strips, 50, [("a", 2)])

    def test_one_frame_apart(self):
        for strips in ([("a", 0, 4, 0), ("a", 6, 9, 0)], [("a", 9, 6, 0), ("a", 4, 0, 0)],
                       [("a", 6, 6, 0), ("a", 4, 4, 0)]):
            self.assert_needs(strips, 0, [("a", 1)])
            self.assert_needs(strips, 1, [("a", 1)])
            self.assert_needs(strips, 2, [("a", 2)])

    def test_spoil_frames_apart(self):
        for spoil in range(51):
            self.assert_needs([("a", 100, 0, 0), ("a", 101 + spoil, 300, 0)], spoil, [("a", 1)])
            self.assert_needs([("a", 100, 0, 0), ("a", 101 + spoil, 300, 0)], spoil + 1, [("a", 2)])
            self.assert_needs([("a", 101 + spoil, 101 + spoil, 0), ("a", 100, 100, 0)], spoil, [("a", 1)])

    def test_that_share_a_frame(self):
        self.assert_needs([("a", 0, 5, 0), ("a", 5, 9, 0)], 0, [("a", 2)])
        self.assert_needs([("a", 5, 9, 0), ("a", 5, 0, 0)], 0, [("a", 2)])
        self.assert_needs([("a", 5, 5, 0), ("a", 5, 5, 0)], 0, [("a", 2)])

    def test_within_one_another(self):
        self.assert_needs([("a", 0, 9, 0), ("a", 4, 5, 0)], 0, [("a", 2)])
        self.assert_needs([("a", 5, 4, 0), ("a", 0, 9, 0)], 0, [("a", 2)])
        self.assert_needs([("a", 0, 9, 0), ("a", 9, 9, 0)], 3, [("a", 2)])
        self.assert_needs([("a", 0, 9, 0), ("a", 0, 0, 0)], 0, [("a", 2)])

    def test_of_two_reels(self):
        self.assert_needs([("a", 0, 9, 0), ("b", 0, 9, 0)], 50, [("a", 1), ("b", 1)])
        self.assertEqual(prints_for([("a", 0, 9, 0), ("b", 0, 9, 0)], 50), [0, 0])

    def test_nothing_is_spoiled_ahead(self):
        """A strip may begin at the reel's first frame, and no frames below its least one are wanted."""
        self.assert_needs([("a", 0, 4, 0), ("a", 20, 24, 0)], 15, [("a", 1)])
        self.assert_needs([("a", 0, 4, 0), ("a", 20, 24, 0)], 16, [("a", 2)])


class Needs(PrintsTest):
    def test_nothing(self):
        self.assertEqual(prints_for([], 3), [])
        self.assertEqual(needs([], 3), [])
        self.assertEqual(reasons([], 3), [])
        self.assertEqual(cuts([], [], "a", 0), [])

    def test_one(self):
        for spoil in (0, 1, 50):
            self.assertEqual(prints_for([("a", 3, 9, 0)], spoil), [0])
            self.assertEqual(needs([("a", 3, 9, 0)], spoil), [("a", 1)])

    def test_sorted_by_the_reels_names(self):
        strips = [("zoo", 0, 5, 0), ("b", 3, 4, 0), ("zoo", 5, 9, 0), ("a", 1, 1, 0), ("ab", 2, 2, 0), ("zoo", 5, 1, 0)]
        self.assert_needs(strips, 0, [("a", 1), ("ab", 1), ("b", 1), ("zoo", 3)])

    def test_a_hundred_of_one_frame(self):
        self.assert_needs([("a", 5, 5, 0)] * 100, 0, [("a", 100)])

    def test_kinds(self):
        strips = [("b", 0, 5, 0), ("a", 3, 4, 0)]
        for told in (prints_for(strips, 1), needs(strips, 1), reasons(strips, 1)):
            self.assertIs(type(told), list)
        for thing in needs(strips, 1) + reasons(strips, 1) + cuts(strips, [0, 0], "a", 0):
            self.assertIs(type(thing), tuple)
        self.assertEqual([type(thing) for thing in reasons(strips, 1)[0]], [str, int, list])


class Heaps(PrintsTest):
    def test_hang_together_by_a_third_one(self):
        self.assert_needs([("a", 0, 4, 0), ("a", 8, 12, 0), ("a", 4, 8, 0)], 0, [("a", 2)])
        self.assert_needs([("a", 0, 2, 0), ("a", 8, 12, 0), ("a", 4, 6, 0)], 2, [("a", 2)])

    def test_a_chain(self):
        for order in itertools.permutations(CHAIN):
            self.assert_needs(list(order), 0, [("a", 2)])

    def test_a_heap_beside_one_that_needs_more(self):
        """The chain is on prints 0 and 1 though the reel has four."""
        others = [("a", 30, 40, 0), ("a", 40, 31, 0), ("a", 35, 50, 0), ("a", 38, 36, 0)]
        for order in itertools.permutations(CHAIN):
            for strips in (others + list(order), list(order) + others, others[:2] + list(order) + others[2:]):
                self.assert_needs(strips, 0, [("a", 4)])
                self.assertEqual({prints_for(strips, 0)[strips.index(strip)] for strip in CHAIN}, {0, 1})

    def test_one_that_hangs_with_none(self):
        strips = [("a", 30, 40, 0), ("a", 35, 50, 0), ("a", 5, 9, 0), ("a", 32, 36, 0), ("a", 60, 70, 0), ("b", 35, 35, 0)]
        prints = prints_for(strips, 4)
        self.assertEqual([prints[2], prints[4], prints[5]], [0, 0, 0])
        self.assert_needs(strips, 4, [("a", 3), ("b", 1)])


class Reasons(PrintsTest):
    def test_where_there_is_but_one(self):
        self.assertEqual(reasons([("a", 5, 5, 0)], 0), [("a", 5, [0])])
        self.assertEqual(reasons([("a", 5, 5, 0), ("b", 5, 6, 0), ("a", 5, 5, 0), ("b", 7, 6, 0)], 0), [
            ("a", 5, [0, 2]), ("b", 6, [1, 3])])

    def test_wanted_as_spoiled_frames_alone(self):
        self.assertEqual(reasons([("a", 9, 7, 0), ("a", 0, 6, 0)], 1), [("a", 7, [0, 1])])
        self.assertEqual(reasons([("a", 3, 0, 0), ("a", 7, 7, 0), ("a", 5, 5, 0)], 4), [("a", 7, [0, 1, 2])])

    def test_all_that_want_the_frame(self):
        strips = [("a", 0, 9, 0), ("b", 3, 3, 0), ("a", 3, 3, 0), ("a", 5, 1, 0), ("a", 20, 30, 0), ("a", 6, 8, 0)]
        self.assertEqual(reasons(strips, 0), [("a", 3, [0, 2, 3]), ("b", 3, [1])])
        self.assertEqual(reasons(strips, 3)[0], ("a", 6, [0, 2, 3, 5]))
        self.assertEqual(reasons(strips, 3)[1][2], [1])

    def test_frames_behind_the_reels_end_are_wanted_too(self):
        """The reel has 60 frames; its last one may be a strip's, whatever is spoiled."""
        clips = played(read_list("a:50-59 b:0 a:59 b:2 a:59-57 b:4 a:48"), {}, REELS)
        strips = strips_of(clips)
        for spoil in (0, 1, 2, 11, 50):
            self.assert_good(strips, spoil)
        self.assertEqual(needs(strips, 0)[0], ("a", 3))
        self.assertEqual(needs(strips, 50)[0], ("a", 4))
        self.assertEqual(reasons(strips, 0)[0], ("a", 59, [0, 2, 4]))


class Cuts(PrintsTest):
    STRIPS = [("a", 9, 5, 0), ("b", 5, 9, 0), ("a", 0, 3, 0), ("a", 7, 7, 1), ("b", 30, 20, 0), ("a", 20, 12, 0)]
    PRINTS = [0, 0, 0, 1, 0, 0]

    def test_rising(self):
        self.assertEqual(cuts(self.STRIPS, self.PRINTS, "a", 0), [(0, 3, 2), (5, 9, 0), (12, 20, 5)])
        self.assertEqual(cuts(self.STRIPS, self.PRINTS, "a", 1), [(7, 7, 3)])
        self.assertEqual(cuts(self.STRIPS, self.PRINTS, "b", 0), [(5, 9, 1), (20, 30, 4)])

    def test_of_what_is_not_there(self):
        self.assertEqual(cuts(self.STRIPS, self.PRINTS, "a", 2), [])
        self.assertEqual(cuts(self.STRIPS, self.PRINTS, "b", 1), [])
        self.assertEqual(cuts(self.STRIPS, self.PRINTS, "a", -1), [])
        self.assertEqual(cuts(self.STRIPS, self.PRINTS, "c", 0), [])

    def test_by_the_prints_handed_in(self):
        self.assertEqual(cuts(self.STRIPS, [4, 0, 3, 9, 1, 4], "a", 4), [(5, 9, 0), (12, 20, 5)])
        self.assertEqual(cuts(self.STRIPS, [4, 0, 3, 9, 1, 4], "a", 0), [])

    def test_all_strips_lie_on_one_print_each(self):
        prints = prints_for(self.STRIPS, 3)
        told = []
        for reel, many in needs(self.STRIPS, 3):
            for number in range(many):
                row = cuts(self.STRIPS, prints, reel, number)
                for ahead, after in zip(row, row[1:]):
                    self.assertGreater(after[0] - ahead[1], 3)
                told += [cut[2] for cut in row]
        self.assertEqual(sorted(told), list(range(6)))


class ManyFilms(PrintsTest):
    def test_each(self):
        chance = random.Random(20)
        many = {}
        for _ in range(800):
            clips = drawn_clips(chance, 12, chance.choice((6, 20, 60)), "abc")
            strips = strips_of(clips)
            spoil = chance.choice((0, 0, 1, 2, 5, 50))
            self.assert_good(strips, spoil)
            for _, number in needs(strips, spoil):
                many[number] = many.get(number, 0) + 1
        self.assertGreater(min(many.get(number, 0) for number in range(1, 6)), 50)

    def test_each_of_any_cutting(self):
        chance = random.Random(21)
        for _ in range(60):
            clips = drawn_clips(chance, 4, 4)
            for cutting in itertools.islice(cuttings(frames_with_fades(clips)), 40):
                self.assert_good(cutting, chance.choice((0, 1, 3)))

    def test_no_cutting_does_with_fewer_prints(self):
        chance = random.Random(22)
        some = 0
        for _ in range(300):
            clips = drawn_clips(chance, 4, 4)
            spoil = chance.choice((0, 0, 1, 2, 3))
            strips = strips_of(clips)
            told = dict(needs(strips, spoil))
            why = reasons(strips, spoil)
            for cutting in cuttings(frames_with_fades(clips)):
                some += 1
                fewest = fewest_prints(cutting, spoil)
                for reel, frame, numbers in why:
                    at_once = sum((reel, frame) in wanted(strip, spoil) for strip in cutting)
                    self.assertGreaterEqual(at_once, len(numbers), (clips, spoil, cutting))
                    self.assertGreaterEqual(fewest[reel], told[reel], (clips, spoil, cutting))
            self.assertEqual(fewest_prints(strips, spoil), told, (clips, spoil))
        self.assertGreater(some, 3000)

    def test_turned_about_as_many_prints_are_needed(self):
        chance = random.Random(23)
        some = 0
        for _ in range(1500):
            items = read_list(drawn_text(chance))
            if refusal_of(played, items, {}, REELS):
                continue
            some += 1
            spoil = chance.choice((0, 1, 2, 3))
            there = needs(strips_of(played(items, {}, REELS)), spoil)
            self.assertEqual(needs(strips_of(played(turned(items), {}, REELS)), spoil), there, show_list(items))
        self.assertGreater(some, 500)


class HandedIn(PrintsTest):
    def test_all_stays(self):
        strips = [("b", 9, 5, 0), ("a", 5, 9, 0), ("b", 0, 3, 0), ("b", 7, 7, 1)]
        prints = [1, 0, 0, 0]
        before = copy.deepcopy((strips, prints))
        prints_for(strips, 2)
        needs(strips, 2)
        reasons(strips, 2)
        cuts(strips, prints, "b", 0)
        self.assertEqual((strips, prints), before)

    def test_the_lists_told_are_new_ones(self):
        strips = [("b", 9, 5, 0), ("a", 5, 9, 0), ("b", 0, 3, 0), ("b", 7, 7, 1)]
        for tell in (lambda: prints_for(strips, 2), lambda: needs(strips, 2), lambda: reasons(strips, 2),
                     lambda: cuts(strips, [1, 0, 0, 0], "b", 0)):
            first = tell()
            before = copy.deepcopy(first)
            first.clear()
            self.assertEqual(tell(), before)
        first = reasons(strips, 2)
        before = copy.deepcopy(first)
        first[0][2].clear()
        self.assertEqual(reasons(strips, 2), before)

    def test_later_changes_do_not_reach_what_was_told(self):
        strips = [("b", 9, 5, 0), ("b", 7, 7, 0)]
        told = [prints_for(strips, 0), needs(strips, 0), reasons(strips, 0), cuts(strips, [0, 1], "b", 1)]
        before = copy.deepcopy(told)
        strips.clear()
        self.assertEqual(told, before)

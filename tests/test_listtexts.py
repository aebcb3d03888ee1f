"""Points 8 and 9: lists, their texts read and written."""

import itertools
import random
import re
import string
import unittest

from leadersplice.errors import NoList
from leadersplice.listtexts import read_list, show_list

KNOWN = [
    ("a:5", (("clip", "a", 5, 5),)),
    ("a:0", (("clip", "a", 0, 0),)),
    ("a:5-9", (("clip", "a", 5, 9),)),
    ("a:9-5", (("clip", "a", 9, 5),)),
    ("a:0-1", (("clip", "a", 0, 1),)),
    ("a:1-0", (("clip", "a", 1, 0),)),
    ("a:10-1", (("clip", "a", 10, 1),)),
    ("a:1-10", (("clip", "a", 1, 10),)),
    ("abcdefgh:999999999", (("clip", "abcdefgh", 999999999, 999999999),)),
    ("z:0-999999999", (("clip", "z", 0, 999999999),)),
    ("z:999999999-0", (("clip", "z", 999999999, 0),)),
    ("z:100000000-999999999", (("clip", "z", 100000000, 999999999),)),
    ("a", (("part", "a"),)),
    ("stuvwxyz", (("part", "stuvwxyz"),)),
    ("clip times back part fade", tuple(("part", name) for name in ("clip", "times", "back", "part", "fade"))),
    ("~1", (("fade", 1),)),
    ("~10", (("fade", 10),)),
    ("~999999999", (("fade", 999999999),)),
    ("~3 ~4", (("fade", 3), ("fade", 4))),
    ("1*( a )", (("times", 1, (("part", "a"),)),)),
    ("20*( a:3 )", (("times", 20, (("clip", "a", 3, 3),)),)),
    ("999999999*( a )", (("times", 999999999, (("part", "a"),)),)),
    ("2*( ~3 )", (("times", 2, (("fade", 3),)),)),
    ("-( a )", (("back", (("part", "a"),)),)),
    ("-( a b:1-2 )", (("back", (("part", "a"), ("clip", "b", 1, 2))),)),
    ("-( -( a ) )", (("back", (("back", (("part", "a"),)),)),)),
    ("-( a ) -( b )", (("back", (("part", "a"),)), ("back", (("part", "b"),)))),
    ("a:0-9 ~3 2*( b:4-1 ~1 -( c d:7 ) ) e", (
        ("clip", "a", 0, 9),
        ("fade", 3),
        ("times", 2, (
            ("clip", "b", 4, 1),
            ("fade", 1),
            ("back", (("part", "c"), ("clip", "d", 7, 7))),
        )),
        ("part", "e"),
    )),
]

# Words that stand in no list's text, whatever stands around them.
NO_WORDS = """
    A aB a1 1a a_b abcdefghi abcdefghij a- -a a+ a.b ab! {a} `
    : a: :5 a:: a::5 a:5: a:5:6 a:-5 a:- a:5- a:5-- a:5--6 a:5-6- a:5-6-7 a:+5 a:5+6 a:5,6 a:a a:5-a a:a-5 a:1_0 a:0x1
    a:5-5 a:0-0 a:10-10 a:999999999-999999999 a:05 a:00 a:05-6 a:5-06 a:00-1 a:1-00 a:05-5 a:5-05
    a:1000000000 a:0-1000000000 a:1000000000-0 a:0000000001 a:12345678901234567890
    A:5 aB:5 a1:5 abcdefghi:5 1:5 ~:5 -(:5 a,b:5
    ~ ~0 ~00 ~01 ~-1 ~+1 ~a ~~1 ~1~ 1~ ~1.0 ~1000000000 ~0000000001 ~12345678901234567890 ~1-2 -~1 ~(
    *( 0*( 00*( 02*( -1*( +2*( a*( 2**( 2* 2( * ( 1000000000*( 0000000002*( 12345678901234567890*( 2*(( 2*() 2*[ *2( (2*
    - -() () -(( --( ( )) )( +( -[ -) ]
    0 5 05 5-6 -5 , . ; ' " \\ / | = ? # $ & @ ! ^ < >
    -(a a) -(a) 2*(a) 2*(a:5) a:5) (a:5 a:5~3 a~3 ~3a:5 a:5,b:6
""".split()

FOREIGN_WORDS = ["\u00e4", "\u0430", "a:\u0665", "a:\u00b2", "a:\uff15", "~\u0661", "\u0662*(", "a\n", "\na", "a:5\n", "~1\n",
                 ")\n", "-(\n", "a\tb", "\t", "\n", "a\u00a0b", "\u00a0", "\u2003", "\0", "a:5\0", "2*(\n", "a:5\u20136"]


def is_tuples(thing):
    if type(thing) is tuple:
        return all(is_tuples(inner) for inner in thing)
    return type(thing) in (int, str)


def random_items(chance, room):
    """A list of items, at most room deep, fades anywhere."""
    items = []
    for _ in range(chance.randint(1, 4)):
        kind = chance.choice(("clip", "clip", "part", "fade", "times", "back") if room else ("clip", "part", "fade"))
        name = "".join(chance.choice(string.ascii_lowercase) for _ in range(chance.randint(1, 8)))
        numbers = [chance.choice((0, 1, 9, 10, chance.randint(0, 999999999), 999999999)) for _ in range(2)]
        if kind == "clip":
            items.append((kind, name, numbers[0], chance.choice(numbers)))
        elif kind == "part":
            items.append((kind, name))
        elif kind == "fade":
            items.append((kind, numbers[0] or 1))
        elif kind == "times":
            items.append((kind, numbers[0] or 1, random_items(chance, room - 1)))
        else:
            items.append((kind, random_items(chance, room - 1)))
    return tuple(items)


class Known(unittest.TestCase):
    def test_read(self):
        for text, items in KNOWN:
            with self.subTest(text):
                told = read_list(text)
                self.assertEqual(told, items)
                self.assertTrue(is_tuples(told))

    def test_written(self):
        for text, items in KNOWN:
            with self.subTest(text):
                told = show_list(items)
                self.assertEqual(told, text)
                self.assertIs(type(told), str)

    def test_one_behind_the_other(self):
        text = " ".join(text for text, items in KNOWN)
        together = tuple(item for text, items in KNOWN for item in items)
        self.assertEqual(read_list(text), together)
        self.assertEqual(show_list(together), text)

    def test_each_letter_and_each_figure(self):
        for letter in string.ascii_lowercase:
            self.assertEqual(read_list(letter), (("part", letter),))
            self.assertEqual(read_list(f"{letter}:7"), (("clip", letter, 7, 7),))
        for figure in range(1, 10):
            for number in (figure, 10 * figure, figure * 111111111):
                self.assertEqual(read_list(f"~{number}"), (("fade", number),))
                self.assertEqual(read_list(f"{number}*( a:0-{number} )"),
                                 (("times", number, (("clip", "a", 0, number),)),))


class Deep(unittest.TestCase):
    def test_sixteen_deep(self):
        for opening, head in (("-(", ("back",)), ("3*(", ("times", 3))):
            for depth in range(1, 18):
                text = f"{opening} " * depth + "a:1-4" + " )" * depth
                items = (("clip", "a", 1, 4),)
                for _ in range(depth):
                    items = (head + (items,),)
                with self.subTest(opening, depth=depth):
                    self.assertEqual(read_list(text), items)
                    self.assertEqual(show_list(items), text)

    def test_items_around_each_bracket(self):
        text = "m"
        for depth in range(16):
            text = f"a:{depth} {depth + 1}*( {text} ) ~{depth + 1} -( b:{depth} ) z"
        self.assertEqual(show_list(read_list(text)), text)

    def test_two_hundred_items(self):
        text = " ".join(["abcdefg:10-5"] * 200)
        self.assertEqual(read_list(text), (("clip", "abcdefg", 10, 5),) * 200)
        self.assertEqual(show_list(read_list(text)), text)

    def test_there_and_back(self):
        chance = random.Random(9)
        for _ in range(400):
            items = random_items(chance, 4)
            text = show_list(items)
            self.assertEqual(read_list(text), items)
            self.assertEqual(show_list(read_list(text)), text)


class Refused(unittest.TestCase):
    def assert_no_list(self, text, word):
        with self.subTest(text=text):
            with self.assertRaises(NoList) as caught:
                read_list(text)
            self.assertEqual(caught.exception.word, word)

    def test_what_is_no_text(self):
        for thing in (None, 0, 5, True, False, (), ("a",), (("part", "a"),), [], ["a"], {}, b"a"):
            with self.subTest(thing=thing):
                with self.assertRaises(NoList) as caught:
                    read_list(thing)
                self.assertIsNone(caught.exception.word)

    def test_words_without_signs(self):
        for text, word in (("", 0), (" ", 0), ("  ", 0), (" a", 0), ("a ", 1), ("a  b", 1), ("a b ", 2), ("a b  c", 2),
                           ("a b  ", 2), ("-(  a )", 1), ("-( a  )", 2), ("-( a ) ", 3), (" -( a )", 0), ("-( ", 1),
                           ("-( a ", 2)):
            self.assert_no_list(text, word)

    def test_no_words(self):
        for bad in NO_WORDS + FOREIGN_WORDS:
            self.assert_no_list(bad, 0)
            self.assert_no_list(f"a:5 {bad}", 1)
            self.assert_no_list(f"{bad} {bad}", 0)
            self.assert_no_list(f"a ~2 {bad} b )", 2)
            self.assert_no_list(f"-( {bad}", 1)
            self.assert_no_list(f"2*( a {bad} )", 2)
            self.assert_no_list(f"-( a ) {bad}", 3)

    def test_each_sign_for_each_sign(self):
        """Any one sign changed in a good word: refused, unless it is a good word again."""
        good = re.compile(r"[a-z]{1,8}(:(0|[1-9][0-9]{0,8})(-(0|[1-9][0-9]{0,8}))?)?|~[1-9][0-9]{0,8}")
        for word in ("abc", "a:12-30", "b:7", "~25", "a:100000000-1"):
            for place in range(len(word)):
                for sign in string.printable:
                    text = word[:place] + sign + word[place + 1:]
                    if sign == " " or text == "a:12-12":
                        continue
                    if good.fullmatch(text):
                        self.assertEqual(show_list(read_list(text)), text)
                    else:
                        self.assert_no_list(text, 0)

    def test_clips_of_one_frame_have_no_last(self):
        for number in (0, 5, 10, 12, 999999999):
            self.assert_no_list(f"r:{number}-{number}", 0)
            self.assertEqual(read_list(f"r:{number}"), (("clip", "r", number, number),))

    def test_empty_brackets(self):
        for text, word in (("-( )", 1), ("2*( )", 1), ("a -( )", 2), ("-( -( ) )", 2), ("-( a 2*( ) )", 3),
                           ("-( a ) -( )", 4), ("-( )  ", 1), ("-( ) ) )", 1)):
            self.assert_no_list(text, word)

    def test_brackets_not_shut(self):
        for text, word in (("-(", 1), ("2*(", 1), ("-( a", 2), ("-( a 2*( b )", 5), ("-( -( a )", 4), ("a -(", 2),
                           ("-( a ) 2*(", 4), ("-( a ) 2*( b ~3", 6), ("-( -( -(", 3)):
            self.assert_no_list(text, word)

    def test_brackets_shut_too_often(self):
        for text, word in ((")", 0), (") a", 0), ("a )", 1), ("a ) )", 1), ("-( a ) )", 3), ("-( a ) ) b", 3),
                           ("2*( -( a ) ) ) x", 5), (") -(", 0)):
            self.assert_no_list(text, word)

    def test_the_first_decides(self):
        for text, word in (("A ~0", 0), ("a ~0 A", 1), ("a ) ~0", 1), ("-( ~0 )", 1), ("-( A", 1), ("-( a  ~0", 2),
                           ("0*( )", 0), ("0*( a )", 0), ("-( 0*( a ) )", 1), ("a:5-5 )", 0)):
            self.assert_no_list(text, word)

    def test_long_rows_of_figures(self):
        for many in (10, 20, 5000):
            row = "1" * many
            for text in (f"a:{row}", f"a:1-{row}", f"~{row}", f"{row}*( a )"):
                self.assert_no_list(text, 0)


class EachRowOfWords(unittest.TestCase):
    """All rows of up to five words out of three, by the very words of point 9."""

    def setUp(self):
        self.begins = set()
        self.lists = set()
        # Five words that open brackets need an item and five that shut them.
        for many in range(1, 12):
            for row in itertools.product(("a", "-(", ")"), repeat=many):
                if self.is_list(row):
                    self.lists.add(row)
                    self.begins.update(row[:k] for k in range(1, many + 1))

    def is_list(self, row):
        if row.count("-(") != row.count(")"):
            return False
        text = " ".join(row)
        shorter = None
        while shorter != text:
            shorter, text = text, re.sub(r"-\( a( a)* \)", "a", text)
        return re.fullmatch(r"a( a)*", text) is not None

    def due(self, row):
        for number in range(len(row)):
            if row[:number + 1] not in self.begins:
                return number
        return len(row)

    def test_all(self):
        for many in range(1, 6):
            for row in itertools.product(("a", "-(", ")"), repeat=many):
                text = " ".join(row)
                if row in self.lists:
                    self.assertEqual(show_list(read_list(text)), text)
                    continue
                with self.assertRaises(NoList, msg=text) as caught:
                    read_list(text)
                self.assertEqual(caught.exception.word, self.due(row), text)


class HandedIn(unittest.TestCase):
    def test_nothing_is_remembered(self):
        text = "a:0-9 ~3 2*( b:4-1 )"
        self.assertEqual(read_list(text), read_list(text))
        self.assertRaises(NoList, read_list, "-( a")
        self.assertEqual(read_list("b"), (("part", "b"),))

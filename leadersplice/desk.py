"""The desk: it is told rows and answers each with a text."""

from leadersplice.bench import Bench
from leadersplice.errors import NoName, NoPlace, NoRow
from leadersplice.keys import read_key, show_key
from leadersplice.kinds import is_name, is_number
from leadersplice.listtexts import clip_word, read_list, show_list
from leadersplice.over import brought_over
from leadersplice.played import played
from leadersplice.prints import needs, reasons
from leadersplice.reels import checked, key_of, reel_named
from leadersplice.rolls import rolls
from leadersplice.shown import length, shown

# For each row: how many words it has, and which of them are numbers.
ROWS = {
    "reel": (4, (3,)),
    "part": (3, ()),
    "spoil": (2, (1,)),
    "list": (2, ()),
    "drop": (3, (1, 2)),
    "length": (1, ()),
    "show": (2, (1,)),
    "strips": (1, ()),
    "prints": (1, ()),
    "needs": (1, ()),
    "why": (2, ()),
    "rolls": (2, (1,)),
    "key": (3, (2,)),
    "over": (4, ()),
}
# The last word of these is a text with all its blanks.
WITH_TEXT = ("part", "list", "over")
CHANGING = ("reel", "part", "spoil", "list", "drop")
DONE = "ok"


class Desk:
    def __init__(self):
        self.reels = []
        self.parts = {}
        self.bench = Bench([], 0)

    def say(self, row):
        words = words_of(row)
        if words[0] in CHANGING:
            return self.answer_change(words)
        return self.answer_question(words)

    def answer_change(self, words):
        if words[0] == "reel":
            return self.add_reel(words[1], words[2], words[3])
        if words[0] == "part":
            return self.keep_part(words[1], words[2])
        if words[0] == "spoil":
            return self.clear_bench(words[1])
        if words[0] == "list":
            return self.fill_bench(words[1])
        return spaced(self.bench.change(words[1], words[2], []))

    def answer_question(self, words):
        if words[0] == "length":
            return str(length(self.bench.clips()))
        if words[0] == "show":
            return moment_text(self.bench.clips(), words[1])
        if words[0] == "strips":
            return " ".join([clip_word(strip[0], strip[1], strip[2]) for strip in self.bench.strips()])
        if words[0] == "prints":
            return spaced(self.bench.prints())
        if words[0] == "needs":
            return needs_text(needs(self.bench.strips(), self.bench.spoil))
        if words[0] == "why":
            return self.reason_text(words[1])
        if words[0] == "rolls":
            return " | ".join([roll_text(roll) for roll in rolls(self.bench.strips(), words[1])])
        if words[0] == "key":
            return show_key(key_of(self.reels, words[1], words[2]))
        return self.over_text(words[1], words[2], words[3])

    # The bench stays as it is: it looks at reels for new clips alone, and a
    # list gets a bench of its own.
    def add_reel(self, name, text, many):
        key = read_key(text)
        self.reels = checked(self.reels + [(name, key[0], key[1], many)])
        return DONE

    def keep_part(self, name, text):
        if not is_name(name):
            raise NoName(name)
        self.parts[name] = read_list(text)
        return DONE

    def clear_bench(self, spoil):
        self.bench = Bench(self.reels, spoil)
        return DONE

    def fill_bench(self, text):
        clips = played(read_list(text), self.parts, self.reels)
        bench = Bench(self.reels, self.bench.spoil)
        bench.change(0, 0, clips)
        self.bench = bench
        return DONE

    def reason_text(self, name):
        reel_named(self.reels, name)
        for reel, frame, numbers in reasons(self.bench.strips(), self.bench.spoil):
            if reel == name:
                return str(frame) + ": " + spaced(numbers)
        raise NoPlace("the reel has no strips")

    def over_text(self, one, other, text):
        told = brought_over(read_list(text), {}, self.reels, one, other)
        return show_list(told[0])


def words_of(row):
    if not isinstance(row, str):
        raise NoRow("a row is a text")
    first = row.partition(" ")[0]
    if first not in ROWS:
        raise NoRow("no row begins with this word")
    many = ROWS[first][0]
    numbers = ROWS[first][1]
    words = row.split(" ", many - 1) if first in WITH_TEXT else row.split(" ")
    if len(words) != many:
        raise NoRow("the row has too few or too many words")
    if not all([is_number(words[place]) for place in numbers]):
        raise NoRow("a number is not written as one")
    return [int(word) if place in numbers else word for place, word in enumerate(words)]


def spaced(numbers):
    return " ".join([str(number) for number in numbers])


def moment_text(clips, moment):
    if moment >= length(clips):
        raise NoPlace("the film is not so long")
    return ", ".join([f"{reel}:{number} {part}/{whole}" for reel, number, part, whole in shown(clips)[moment]])


def needs_text(rows):
    return " ".join([f"{reel}={many}" for reel, many in rows])


def roll_text(roll):
    return " ".join([f"+{number}" if kind == "leader" else f"#{number}" for kind, number in roll])

"""Reels, tuples (NAME, LETTERS, START, MANY), and their frames' edge numbers."""

from leadersplice.errors import NoFrame, NoName, NoReel
from leadersplice.kinds import are_letters, is_name, is_whole

NAME = 0
LETTERS = 1
START = 2
MANY = 3
EDGE_NUMBERS = 160000


def checked(reels):
    taken = {}
    for number, reel in enumerate(reels):
        if not is_reel(reel) or reel[NAME] in taken:
            raise NoReel(number)
        taken[reel[NAME]] = True
    # The asker may change what is told, and what was handed in has to stay.
    return list(reels)


def is_reel(reel):
    if not isinstance(reel, tuple) or len(reel) != 4:
        return False
    return is_name(reel[NAME]) and are_letters(reel[LETTERS]) and is_stretch(reel[START], reel[MANY])


def is_stretch(start, many):
    if not is_whole(start) or not is_whole(many):
        return False
    return 0 <= start < EDGE_NUMBERS and many >= 1 and start + many <= EDGE_NUMBERS


def reel_named(reels, name):
    for reel in reels:
        if reel[NAME] == name:
            return reel
    raise NoName(name)


def has_frame(reel, frame):
    return is_whole(frame) and 0 <= frame < reel[MANY]


def bears(reel, key):
    return key[0] == reel[LETTERS] and is_whole(key[1]) and has_frame(reel, key[1] - reel[START])


def key_of(reels, name, frame):
    reel = reel_named(reels, name)
    if not has_frame(reel, frame):
        raise NoFrame(reel[NAME], frame)
    return (reel[LETTERS], reel[START] + frame)


def frame_of(reels, name, key):
    reel = reel_named(reels, name)
    if not bears(reel, key):
        raise NoFrame(reel[NAME], None)
    return key[1] - reel[START]

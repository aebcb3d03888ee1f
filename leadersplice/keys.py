"""Edge numbers, tuples (LETTERS, NUMBER), read and written."""

from leadersplice.errors import NoKey
from leadersplice.kinds import are_figures, are_letters

FRAMES_IN_FOOT = 16
KEY_SIGNS = 9


def read_key(text):
    if not has_key_form(text):
        raise NoKey("this is no edge number's text")
    feet = int(text[2:6])
    frames = int(text[7:])
    if frames >= FRAMES_IN_FOOT:
        raise NoKey("a foot has but sixteen frames")
    return (text[:2], feet * FRAMES_IN_FOOT + frames)


def has_key_form(text):
    if not isinstance(text, str) or len(text) != KEY_SIGNS:
        return False
    return are_letters(text[:2]) and are_figures(text[2:6]) and text[6] == "+" and are_figures(text[7:])


def show_key(key):
    feet = str(key[1] // FRAMES_IN_FOOT).zfill(4)
    frames = str(key[1] % FRAMES_IN_FOOT).zfill(2)
    return key[0] + feet + "+" + frames

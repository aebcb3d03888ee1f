"""The texts of lists, read and written."""

from leadersplice.errors import NoList
from leadersplice.kinds import is_name, is_number

TIMES_OPEN = "*("
BACK_OPEN = "-("
SHUT = ")"


def read_list(text):
    if not isinstance(text, str):
        raise NoList(None)
    words = text.split(" ")
    # For each bracket that is open: what opened it, and the items ahead of it.
    brackets = []
    items = []
    for number, word in enumerate(words):
        opening = read_opening(word)
        if opening is not None:
            brackets.append((opening, items))
            items = []
        elif word == SHUT:
            if not brackets or not items:
                raise NoList(number)
            items = shut(brackets.pop(), items)
        else:
            items.append(read_item(word, number))
    # Whatever is begun can be ended, so up to here each word was in its place.
    if brackets:
        raise NoList(len(words))
    return tuple(items)


def shut(bracket, inner):
    opening = bracket[0]
    ahead = bracket[1]
    return ahead + [opening + (tuple(inner),)]


def read_opening(word):
    if word == BACK_OPEN:
        return ("back",)
    many = word[:-len(TIMES_OPEN)]
    if word.endswith(TIMES_OPEN) and is_count(many):
        return ("times", int(many))
    return None


def read_item(word, number):
    if is_name(word):
        return ("part", word)
    if word.startswith("~") and is_count(word[1:]):
        return ("fade", int(word[1:]))
    clip = read_clip(word)
    if clip is None:
        raise NoList(number)
    return clip


def read_clip(word):
    reel = word.partition(":")[0]
    frames = word[len(reel) + 1:].split("-")
    if not is_name(reel) or len(frames) > 2 or not all([is_number(frame) for frame in frames]):
        return None
    # A clip of one frame is written without its LAST, and in no other way.
    if len(frames) == 2 and frames[0] == frames[1]:
        return None
    return ("clip", reel, int(frames[0]), int(frames[-1]))


def is_count(text):
    return is_number(text) and text != "0"


def show_list(items):
    return " ".join(words_of(items))


def words_of(items):
    words = []
    for item in items:
        words.append(first_word(item))
        if item[0] in ("times", "back"):
            words.extend(words_of(item[-1]))
            words.append(SHUT)
    return words


def first_word(item):
    if item[0] == "clip":
        return clip_word(item[1], item[2], item[3])
    if item[0] == "times":
        return str(item[1]) + TIMES_OPEN
    if item[0] == "back":
        return BACK_OPEN
    if item[0] == "fade":
        return "~" + str(item[1])
    return item[1]


def clip_word(reel, first, last):
    if first == last:
        return f"{reel}:{first}"
    return f"{reel}:{first}-{last}"

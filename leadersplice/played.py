"""What a list plays: clips, tuples (REEL, FIRST, LAST, FADE), in the order in which they are seen."""

from leadersplice.errors import TooMany, TooShort
from leadersplice.lists import sound

MOST_CLIPS = 100
MOST_FRAMES = 2000


def played(items, parts, reels):
    sound(items, parts, reels)
    clips = clips_of(items, parts)
    refuse_film(clips)
    return clips


# All that stands within a list is played at least once, so the list is too
# long as soon as a list within it is, and none grows far before that is seen.
def clips_of(items, parts):
    clips = []
    fade = 0
    for item in items:
        if item[0] == "fade":
            fade = item[1]
        else:
            clips.extend(faded_in(clips_of_item(item, parts), fade))
            refuse_many(len(clips), MOST_CLIPS)
            fade = 0
    return clips


def clips_of_item(item, parts):
    if item[0] == "clip":
        return [(item[1], item[2], item[3], 0)]
    if item[0] == "part":
        return clips_of(parts[item[1]], parts)
    clips = clips_of(item[-1], parts)
    if item[0] == "back":
        return backwards(clips)
    refuse_many(len(clips) * item[1], MOST_CLIPS)
    return clips * item[1]


def faded_in(clips, many):
    return [clip[:3] + (many,) for clip in clips[:1]] + clips[1:]


def backwards(clips):
    told = []
    # The fade ahead of a clip is, backwards, ahead of the one that it followed.
    ahead = 0
    for reel, first, last, fade in reversed(clips):
        told.append((reel, last, first, ahead))
        ahead = fade
    return told


def frames_in(clip):
    return abs(clip[2] - clip[1]) + 1


def refuse_film(clips):
    refuse_many(len(clips), MOST_CLIPS)
    refuse_many(sum([frames_in(clip) for clip in clips]), MOST_FRAMES)
    refuse_short(clips)


def refuse_many(number, most):
    if number > most:
        raise TooMany("the list has too many clips or frames")


def refuse_short(clips):
    fades = [clip[3] for clip in clips] + [0]
    for number, clip in enumerate(clips):
        if frames_in(clip) < fades[number] + fades[number + 1]:
            raise TooShort(number)

"""What is shown of the clips that a list plays, moment by moment."""

from leadersplice.played import frames_in


def way_of(clip):
    return -1 if clip[2] < clip[1] else 1


def numbers_of(clip):
    way = way_of(clip)
    return list(range(clip[1], clip[2] + way, way))


def shown(clips):
    moments = []
    for clip in clips:
        show_clip(moments, clip)
    return moments


# No clip is shorter than the fades at its two ends, so the moments that a
# fade takes have shown but one frame each, one of the clip ahead.
def show_clip(moments, clip):
    fade = clip[3]
    begin = len(moments) - fade
    for k, number in enumerate(numbers_of(clip)):
        if k < fade:
            going = moments[begin + k][0]
            moments[begin + k] = faded(going, clip[0], number, k + 1, fade + 1)
        else:
            moments.append(((clip[0], number, 1, 1),))


def faded(going, reel, number, part, whole):
    return (going[:2] + (whole - part, whole), (reel, number, part, whole))


def length(clips):
    return sum([frames_in(clip) - clip[3] for clip in clips])

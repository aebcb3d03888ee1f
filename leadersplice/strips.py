"""The strips of which a film is made, tuples (REEL, FIRST, LAST, FADE), as few as can be."""

from leadersplice.shown import numbers_of, way_of


def strips_of(clips):
    strips = []
    for clip in clips:
        numbers = numbers_of(clip)
        if clip[3] > 0:
            strips.append((clip[0], clip[1], clip[1], clip[3]))
            numbers = numbers[1:]
        for number in numbers:
            take_frame(strips, clip[0], number)
    return strips


def take_frame(strips, reel, number):
    if strips and can_have(strips[-1], reel, number):
        strips[-1] = strips[-1][:2] + (number, strips[-1][3])
    else:
        strips.append((reel, number, number, 0))


def can_have(strip, reel, number):
    if strip[0] != reel:
        return False
    if strip[1] == strip[2]:
        return abs(number - strip[2]) == 1
    return number == strip[2] + way_of(strip)


def joins(clips):
    return max(len(strips_of(clips)) - 1, 0)


def frames_of(strip):
    return numbers_of(strip)

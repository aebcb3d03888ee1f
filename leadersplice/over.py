"""Lists brought over from one reel to another by the edge numbers."""

from leadersplice.reels import frame_of, key_of, reel_named


def brought_over(items, parts, reels, one, other):
    # Both are asked for even where no clip is of the one.
    reel_named(reels, one)
    reel_named(reels, other)
    told = over_items(items, reels, one, other)
    told_parts = {}
    for name, part in parts.items():
        told_parts[name] = over_items(part, reels, one, other)
    return (told, told_parts)


def over_items(items, reels, one, other):
    told = []
    for item in items:
        if item[0] == "clip" and item[1] == one:
            told.append(over_clip(item, reels, one, other))
        elif item[0] in ("times", "back"):
            told.append(item[:-1] + (over_items(item[-1], reels, one, other),))
        else:
            told.append(item)
    return tuple(told)


# FIRST is refused by both reels ahead of LAST by either.
def over_clip(clip, reels, one, other):
    frames = [frame_of(reels, other, key_of(reels, one, frame)) for frame in clip[2:]]
    return ("clip", other, frames[0], frames[1])

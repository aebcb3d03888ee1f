"""Lists: what they are refused for, and lists turned about."""

from leadersplice.errors import NoFade, NoFrame, NoName
from leadersplice.reels import has_frame, reel_named


def sound(items, parts, reels):
    look_through(items, parts, reels, {})
    return items


# In `within` a part's name bears True while the part is gone through, and
# False from then on: it need not be gone through again.
def look_through(items, parts, reels, within):
    for place, item in enumerate(items):
        if item[0] == "clip":
            look_at_clip(item, reels)
        elif item[0] == "fade":
            look_at_fade(items, place)
        elif item[0] == "part":
            look_at_part(item[1], parts, reels, within)
        else:
            look_through(item[-1], parts, reels, within)


def look_at_clip(clip, reels):
    reel = reel_named(reels, clip[1])
    for frame in clip[2:]:
        if not has_frame(reel, frame):
            raise NoFrame(clip[1], frame)


def look_at_fade(items, place):
    if place == 0 or place == len(items) - 1:
        raise NoFade("a fade is the first or the last of its list")
    if is_fade(items[place - 1]) or is_fade(items[place + 1]):
        raise NoFade("a fade stands beside another fade")


def is_fade(item):
    return item[0] == "fade"


def look_at_part(name, parts, reels, within):
    if name not in parts or within.get(name, False):
        raise NoName(name)
    if name not in within:
        within[name] = True
        look_through(parts[name], parts, reels, within)
        within[name] = False


def turned(items):
    told = []
    for item in reversed(items):
        told.extend(turned_item(item))
    return tuple(told)


def turned_item(item):
    if item[0] == "clip":
        return [("clip", item[1], item[3], item[2])]
    if item[0] == "times":
        return [("times", item[1], turned(item[2]))]
    if item[0] == "part":
        return [("back", (item,))]
    if item[0] == "back":
        return in_place(straight(item[1]))
    return [item]


# The list as it stands, but with no "back" except around a single part.
def straight(items):
    told = []
    for item in items:
        told.extend(straight_item(item))
    return tuple(told)


def straight_item(item):
    if item[0] == "times":
        return [("times", item[1], straight(item[2]))]
    if item[0] == "back":
        return in_place(turned(item[1]))
    return [item]


def in_place(items):
    # A fade at an end of its list is refused; it must stay one, and not come
    # to stand between two items of the list around it.
    if any([is_fade(item) for item in items[:1] + items[-1:]]):
        return [("times", 1, items)]
    return list(items)

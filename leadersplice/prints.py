"""The prints of the reels out of which strips are cut, as few as can be, and why no fewer do."""


def least(strip):
    return min(strip[1], strip[2])


def greatest(strip):
    return max(strip[1], strip[2])


def wants(strip, spoil, frame):
    return least(strip) <= frame <= greatest(strip) + spoil


# Taken by their least frames, each strip gets the first print that is free
# there. Each print passed over has a strip that wants this very frame, so no
# strip's print is beyond what the strips that it hangs together with need,
# and no other strips have a part in it: the bench keeps prints by that.
def prints_for(strips, spoil):
    prints = [0] * len(strips)
    taken = {}
    for number in sorted(range(len(strips)), key=lambda k: least(strips[k])):
        strip = strips[number]
        ends = taken.setdefault(strip[0], [])
        prints[number] = first_free(ends, least(strip))
        put_end(ends, prints[number], greatest(strip) + spoil)
    return prints


# The ends are, print by print, the last frame that is wanted there so far.
def first_free(ends, frame):
    for place, end in enumerate(ends):
        if end < frame:
            return place
    return len(ends)


def put_end(ends, place, end):
    if place == len(ends):
        ends.append(end)
    else:
        ends[place] = end


def needs(strips, spoil):
    many = {}
    for strip, place in zip(strips, prints_for(strips, spoil)):
        many[strip[0]] = max(many.get(strip[0], 0), place + 1)
    return sorted(many.items())


def reasons(strips, spoil):
    prints = prints_for(strips, spoil)
    highest = {}
    # Taken by their prints, the last strip of each reel is one of its highest print.
    for number in sorted(range(len(strips)), key=lambda k: prints[k]):
        highest[strips[number][0]] = strips[number]
    return [reason(strips, spoil, highest[reel]) for reel in sorted(highest)]


# A strip of the reel's highest print got it because each print below has a
# strip that wants its least frame, too: these are as many as the prints.
def reason(strips, spoil, strip):
    frame = least(strip)
    wanting = [k for k, other in enumerate(strips) if other[0] == strip[0] and wants(other, spoil, frame)]
    return (strip[0], frame, wanting)


def cuts(strips, prints, reel, number):
    told = []
    for k, strip in enumerate(strips):
        if strip[0] == reel and prints[k] == number:
            told.append((least(strip), greatest(strip), k))
    return sorted(told)

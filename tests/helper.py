"""What several tests need: parts by their texts, a refusal to look at, drawn films, cuttings, and wanted frames."""

from leadersplice.errors import SpliceError
from leadersplice.listtexts import read_list, show_list


def parts_of(**texts):
    return {name: read_list(text) for name, text in texts.items()}


def refusal_of(call, *things):
    """The refusal as a tuple of its class's name and its fields, None where there is none."""
    try:
        call(*things)
    except SpliceError as error:
        return (type(error).__name__,) + tuple(vars(error).values())
    return None


def drawn_clips(chance, most, frames, reels="ab"):
    """Some clips as played, of frames from 0 to below the number told, none shorter than its fades."""
    clips = []
    for _ in range(chance.randint(1, most)):
        reel, first, last = chance.choice(reels), chance.randrange(frames), chance.randrange(frames)
        if clips and chance.random() < 0.5:
            # The clip ahead is gone on with, or nearly so.
            reel, first = clips[-1][0], min(max(clips[-1][2] + chance.choice((-1, 0, 1)), 0), frames - 1)
        room = abs(clips[-1][2] - clips[-1][1]) + 1 - clips[-1][3] if clips else 0
        fade = chance.randint(0, min(room, abs(last - first) + 1)) if chance.random() < 0.4 else 0
        clips.append((reel, first, last, fade))
    return clips


def drawn_text(chance):
    """A list's text with fades, times and backs, of clips that often go on with one another."""
    words = []
    for _ in range(chance.randint(1, 5)):
        if words and chance.random() < 0.3:
            words.append("~1")
        first = chance.randrange(4)
        last = chance.randrange(4)
        clip = show_list((("clip", chance.choice("aab"), first, last),))
        words.append(chance.choice(("{}", "{}", "{}", "2*( {} )", "-( {} )", "-( {} a:2-1 )")).format(clip))
    return " ".join(words)


def frames_with_fades(clips):
    """(REEL, NUMBER, FADE) for each frame of the clips; the FADE is that of the clip that begins there, else 0."""
    row = []
    for reel, first, last, fade in clips:
        numbers = range(first, last + 1) if first <= last else range(first, last - 1, -1)
        row += [(reel, number, 0 if k else fade) for k, number in enumerate(numbers)]
    return row


def is_strip(row):
    """Whether frames, told as above, can be one strip."""
    steps = {after[1] - ahead[1] for ahead, after in zip(row, row[1:])}
    whole = len({frame[0] for frame in row}) == 1 and not any(frame[2] for frame in row[1:])
    return whole and (not steps or steps == {1} or steps == {-1})


def cuttings(row):
    """All cuttings of frames, told as above, one by one."""
    if not row:
        yield []
    for end in range(1, len(row) + 1):
        if not is_strip(row[:end]):
            break
        for rest in cuttings(row[end:]):
            yield [(row[0][0], row[0][1], row[end - 1][1], row[0][2])] + rest


def drawn_cutting(chance, clips):
    """One cutting of the clips; some strips go as far as they can, others less far."""
    row = frames_with_fades(clips)
    strips = []
    while row:
        ends = [end for end in range(1, len(row) + 1) if is_strip(row[:end])]
        end = chance.choice(ends[-1:] * len(ends) + ends)
        strips.append((row[0][0], row[0][1], row[end - 1][1], row[0][2]))
        row = row[end:]
    return strips


def wanted(strip, spoil):
    """All frames that a strip wants, with its reel, one by one."""
    low, high = sorted(strip[1:3])
    return {(strip[0], frame) for frame in range(low, high + 1)} | {(strip[0], high + k) for k in range(1, spoil + 1)}


def heaps(strips, spoil):
    """The numbers of the strips that hang together, heap by heap."""
    found = []
    for number, strip in enumerate(strips):
        wants = wanted(strip, spoil)
        near = [heap for heap in found if any(wants & wanted(strips[k], spoil) for k in heap)]
        found = [heap for heap in found if heap not in near] + [sum(near, []) + [number]]
    return found


def most_at_once(strips, spoil):
    counts = {}
    for strip in strips:
        for frame in wanted(strip, spoil):
            counts[frame] = counts.get(frame, 0) + 1
    return max(counts.values(), default=0)

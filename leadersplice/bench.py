"""The bench: a film's clips with their strips and prints, changed while what need not be touched stays."""

from leadersplice.errors import NoFade, NoPlace
from leadersplice.lists import look_at_clip
from leadersplice.played import frames_in, refuse_film
from leadersplice.prints import prints_for
from leadersplice.strips import strips_of


class Bench:
    def __init__(self, reels, spoil):
        self.reels = list(reels)
        self.spoil = spoil
        self.film_clips = []
        self.film_strips = []
        self.film_prints = []

    def clips(self):
        return list(self.film_clips)

    def strips(self):
        return list(self.film_strips)

    def prints(self):
        return list(self.film_prints)

    def change(self, at, many, clips):
        refuse_place(at, many, len(self.film_clips))
        for clip in clips:
            look_at_clip(("clip",) + clip[:3], self.reels)
        changed = self.film_clips[:at] + list(clips) + self.film_clips[at + many:]
        refuse_film(changed)
        refuse_first_fade(changed)
        numbers = list(range(len(self.film_clips)))
        return self.cut_anew(changed, numbers[:at] + [None] * len(clips) + numbers[at + many:])

    # The numbers are those that the clips had ahead of the change, None for a
    # new one. A strip's print comes from the strips that it hangs together
    # with, and their order, alone; kept strips stay in their order, so where
    # these are the same ones they get the prints that they had.
    def cut_anew(self, clips, numbers):
        strips = strips_of(clips)
        kept = self.kept_numbers(marked(strips, marks_of(clips, numbers)))
        prints = prints_for(strips, self.spoil)
        told = [k for k, number in enumerate(kept) if number is None or prints[k] != self.film_prints[number]]
        self.film_clips = clips
        self.film_strips = strips
        self.film_prints = prints
        return told

    # For each strip the number that it had ahead of the change, None where it
    # was not there. The FADE need not be looked at: where a strip's frames
    # are the same, so is the clip that it begins with, and its FADE.
    def kept_numbers(self, rows):
        marks = marks_of(self.film_clips, list(range(len(self.film_clips))))
        numbers = {}
        for number, row in enumerate(marked(self.film_strips, marks)):
            numbers[row] = number
        return [numbers.get(row, None) for row in rows]


def refuse_place(at, many, most):
    if at < 0 or many < 0 or at + many > most:
        raise NoPlace("there are no such clips")


def refuse_first_fade(clips):
    if clips and clips[0][3] > 0:
        raise NoFade("the first clip has nothing to fade with")


# A frame is marked by its clip's number and its place in the clip, since
# frames that look alike are not the same.
def marks_of(clips, numbers):
    marks = []
    for clip, number in zip(clips, numbers):
        marks.extend([(number, place) for place in range(frames_in(clip))])
    return marks


def marked(strips, marks):
    rows = []
    begin = 0
    for strip in strips:
        end = begin + frames_in(strip)
        rows.append(tuple(marks[begin:end]))
        begin = end
    return rows

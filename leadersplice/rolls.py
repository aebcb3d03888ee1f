"""The two rolls on which strips are laid, each on the other roll than the one ahead, and what a roll shows."""

from leadersplice.errors import TooShort
from leadersplice.played import frames_in
from leadersplice.shown import length
from leadersplice.strips import frames_of


def rolls(strips, leader):
    refuse_near(strips, leader)
    begins = begins_of(strips)
    return (laid(strips, begins, 0), laid(strips, begins, 1))


# The two strips beside a strip lie on one roll; the moments at which it is
# seen alone are all that is between them.
def refuse_near(strips, leader):
    for number in range(1, len(strips) - 1):
        if frames_in(strips[number]) - strips[number][3] - strips[number + 1][3] < leader:
            raise TooShort(number)


def begins_of(strips):
    begins = []
    end = 0
    for strip in strips:
        begins.append(end - strip[3])
        end = begins[-1] + frames_in(strip)
    return begins


def laid(strips, begins, first):
    roll = []
    end = 0
    for number in range(first, len(strips), 2):
        put_leader(roll, begins[number] - end)
        roll.append(("strip", number))
        end = begins[number] + frames_in(strips[number])
    # Strips have the form of clips, so their length is the film's.
    put_leader(roll, length(strips) - end)
    return roll


def put_leader(roll, many):
    if many > 0:
        roll.append(("leader", many))


def roll_shows(strips, roll):
    moments = []
    for kind, number in roll:
        if kind == "leader":
            moments.extend([None] * number)
        else:
            moments.extend([(strips[number][0], frame) for frame in frames_of(strips[number])])
    return moments

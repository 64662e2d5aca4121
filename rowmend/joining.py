"""Joining the changes that two hands have made of one row."""

from rowmend.applying import is_told_for
from rowmend.blocks import kept_and_cut, tidied
from rowmend.errors import NoFit


def joined(row, one, other):
    if not is_told_for(one, row) or not is_told_for(other, row):
        raise NoFit("the change of one of the hands is not told for this row")
    gone = steps_of(tidied([("keep", len(row))]), row)
    ones = steps_of(one, row)
    others = steps_of(other, row)
    stretches = united_stretches([stretch_of(gone[k], ones[k], others[k]) for k in range(len(gone))])
    return [piece_of(stretch) for stretch in stretches]


# In every piece but a clash, what the joined row has there stands last.
def merged(row, one, other):
    lines = []
    for piece in joined(row, one, other):
        if piece[0] == "clash":
            return None
        lines.extend(piece[-1])
    return lines


# What a hand makes of the row, in steps that are the same ones for every hand: what it puts ahead of a line,
# what it leaves of that line, and so on, at last what it puts at the end. Where in a swap the lines are put
# makes no difference, since the lines that it cuts lie in one touched piece with them.
def steps_of(change, row):
    steps = [[]]
    place = 0
    for block in change:
        end = place + kept_and_cut(block)
        if block[0] == "swap":
            steps[-1].extend(block[2])
        for line in row[place:end]:
            steps.append([line] if block[0] == "keep" else [])
            steps.append([])
        place = end
    return steps


def stretch_of(gone, ones, others):
    kind = "same" if ones == gone and others == gone else "touched"
    return (kind, gone, ones, others)


# A stretch that stays the same and has no line is a place at which nobody puts anything: it parts nothing.
def united_stretches(stretches):
    whole = []
    for stretch in stretches:
        if stretch[0] == "same" and not stretch[1]:
            continue
        if whole and whole[-1][0] == stretch[0]:
            last = whole.pop()
            whole.append((last[0], last[1] + stretch[1], last[2] + stretch[2], last[3] + stretch[3]))
        else:
            whole.append(stretch)
    return whole


def piece_of(stretch):
    gone = stretch[1]
    ones = stretch[2]
    others = stretch[3]
    if stretch[0] == "same":
        return ("same", gone)
    if ones == others:
        return ("both", gone, ones)
    if others == gone:
        return ("one", gone, ones)
    if ones == gone:
        return ("other", gone, others)
    return ("clash", gone, ones, others)

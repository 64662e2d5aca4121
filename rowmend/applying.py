"""Doing a change on a row, turning it round, and putting one change behind the other."""

from rowmend.blocks import is_empty, kept_and_cut, kept_and_put, tidied
from rowmend.errors import NoFit


def applied(change, row):
    if not is_told_for(change, row):
        raise NoFit("the change is not told for this row")
    behind = []
    place = 0
    for block in change:
        end = place + kept_and_cut(block)
        if block[0] == "keep":
            behind.extend(row[place:end])
        else:
            behind.extend(block[2])
        place = end
    return behind


# A block that reaches over the end of the row needs no question of its own: the place stays beyond the end.
def is_told_for(change, row):
    place = 0
    for block in change:
        end = place + kept_and_cut(block)
        if block[0] == "swap" and row[place:end] != block[1]:
            return False
        place = end
    return place == len(row)


def turned(change):
    return [turned_block(block) for block in change]


def turned_block(block):
    if block[0] == "keep":
        return block
    return ("swap", list(block[2]), list(block[1]))


# Both changes are walked along the row between them, which the first leads to and the second starts from.
# That row isn't known, and keeps may be far longer than any row, so the walk goes by blocks, not by lines.
def chained(first, second):
    ahead = heap_of(first)
    behind = heap_of(second)
    parts = []
    while ahead or behind:
        if ahead and kept_and_put(ahead[-1]) == 0:
            parts.append(ahead.pop())
        elif behind and kept_and_cut(behind[-1]) == 0:
            parts.append(behind.pop())
        elif ahead and behind:
            count = min(kept_and_put(ahead[-1]), kept_and_cut(behind[-1]))
            parts.append(met(taken(ahead, count), taken(behind, count)))
        else:
            raise NoFit("the second change keeps and cuts another number of lines than the first keeps and puts")
    return tidied(parts)


# The blocks of a change, each swap as one that only cuts and one that only puts, so that every block either
# has lines in the row between two changes or has none there. The first block lies on top, at the list's end.
def heap_of(change):
    parts = []
    for block in change:
        if block[0] == "keep":
            parts.append(block)
        else:
            parts.append(("swap", list(block[1]), []))
            parts.append(("swap", [], list(block[2])))
    heap = [part for part in parts if not is_empty(part)]
    heap.reverse()
    return heap


# The blocks of two changes seldom end at the same line, so what is left of a block is laid back for the next step.
def taken(heap, count):
    top = heap.pop()
    if top[0] == "keep":
        part = ("keep", count)
        rest = ("keep", top[1] - count)
    else:
        part = ("swap", top[1][:count], top[2][:count])
        rest = ("swap", top[1][count:], top[2][count:])
    if not is_empty(rest):
        heap.append(rest)
    return part


# What becomes of lines between two changes: the first keeps or puts them, the second keeps or cuts them.
# Where one of the two keeps them, only the other does something to them.
def met(ahead, behind):
    if ahead[0] == "keep":
        return behind
    if behind[0] == "keep":
        return ahead
    if ahead[2] != behind[1]:
        raise NoFit("the second change cuts another line than the first has put there")
    return ("swap", [], [])

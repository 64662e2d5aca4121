"""Writing a change as notes, and reading notes."""

from rowmend.blocks import tidied
from rowmend.errors import NoChange

FIGURES = "0123456789"


def shown(change):
    notes = []
    for block in change:
        if block[0] == "keep":
            notes.append("=" + str(block[1]))
        else:
            notes.extend(["-" + line for line in block[1]])
            notes.extend(["+" + line for line in block[2]])
    return notes


# Once no two notes stand in an order that no change is written in, each note can be read by itself.
def read(notes):
    for k in range(1, len(notes)):
        refuse_order(notes[k - 1], notes[k])
    return tidied([part_of(note) for note in notes])


def refuse_order(ahead, behind):
    if ahead.startswith("=") and behind.startswith("="):
        raise NoChange("two notes with = stand one behind the other")
    if ahead.startswith("+") and behind.startswith("-"):
        raise NoChange("a note with - stands straight behind one with +")


def part_of(note):
    if note.startswith("-"):
        return ("swap", [note[1:]], [])
    if note.startswith("+"):
        return ("swap", [], [note[1:]])
    if note.startswith("=") and is_number(note[1:]):
        return ("keep", int(note[1:]))
    raise NoChange(f"no change is written with this note: {note!r}")


# Python's own way of reading a number takes blanks, signs and leading noughts too, so it isn't asked.
def is_number(figures):
    if figures == "" or figures[0] == "0":
        return False
    return all([figure in FIGURES for figure in figures])

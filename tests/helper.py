"""What several tests need: checks of changes, covers and pieces, and rows and changes to try them on.

Nothing here calls the program: the checks reckon by themselves what the document asks.
"""

import copy
import itertools

# Far more than is needed, so that only a way that is hopeless for rows of four hundred lines takes longer.
SECONDS = 20

SIGNS = [chr(code) for code in range(ord(" "), ord("~") + 1) if chr(code) != "%"]


def is_count(value):
    return isinstance(value, int) and not isinstance(value, bool)


def is_lines(value):
    return isinstance(value, list) and all(isinstance(line, str) for line in value)


def is_block(block):
    if not isinstance(block, tuple) or not block:
        return False
    if block[0] == "keep":
        return len(block) == 2 and is_count(block[1]) and block[1] >= 1
    if block[0] == "swap":
        return len(block) == 3 and is_lines(block[1]) and is_lines(block[2]) and bool(block[1] or block[2])
    return False


def is_change(change):
    if not isinstance(change, list) or not all(is_block(block) for block in change):
        return False
    return all(ahead[0] != behind[0] for ahead, behind in zip(change, change[1:]))


def row_behind(change, row):
    """The row behind a change, or None where it is not told for the row."""
    behind = []
    place = 0
    for block in change:
        if block[0] == "keep":
            if place + block[1] > len(row):
                return None
            behind.extend(row[place:place + block[1]])
            place += block[1]
        else:
            if row[place:place + len(block[1])] != block[1]:
                return None
            behind.extend(block[2])
            place += len(block[1])
    return behind if place == len(row) else None


def kept_by(change):
    return sum(block[1] for block in change if block[0] == "keep")


def moved_by(change):
    """The size of a change, counted line by line."""
    count = 0
    for block in change:
        if block[0] == "swap":
            for lines in block[1:]:
                for line in lines:
                    count += 1
    return count


def ahead_of(change):
    """The row ahead of a change as far as the change tells it, line by line: a cut line, or None for a kept one."""
    lines = []
    for block in change:
        lines.extend([None] * block[1] if block[0] == "keep" else block[1])
    return lines


def behind_of(change):
    """The row behind a change, line by line: a line that is put, or for a kept one its place in the row ahead."""
    lines = []
    place = 0
    for block in change:
        if block[0] == "keep":
            lines.extend(range(place, place + block[1]))
            place += block[1]
        else:
            lines.extend(block[2])
            place += len(block[1])
    return lines


def chain_of(first, second):
    """What a chained change tells of the row ahead of it and of the one behind, or None where the two don't fit."""
    middle = behind_of(first)
    cut = ahead_of(second)
    if len(middle) != len(cut):
        return None
    ahead = ahead_of(first)
    for line, gone in zip(middle, cut):
        if is_count(line):
            ahead[line] = gone
        elif gone is not None and gone != line:
            return None
    return ahead, [middle[line] if is_count(line) else line for line in behind_of(second)]


def runs_of(row, one, other):
    """The pieces that stay the same, each by its first place and the one behind its last."""
    one_keeps = [place for place in behind_of(one) if is_count(place)]
    other_keeps = [place for place in behind_of(other) if is_count(place)]
    runs = []
    for place in range(len(row)):
        if place not in one_keeps or place not in other_keeps:
            continue
        if runs and runs[-1][1] == place and stands_behind(one, place) and stands_behind(other, place):
            runs[-1] = (runs[-1][0], place + 1)
        else:
            runs.append((place, place + 1))
    return runs


def stands_behind(change, place):
    """Whether a kept line is still straight behind the line that was straight ahead of it."""
    behind = behind_of(change)
    return behind[behind.index(place) - 1] == place - 1


def made_between(row, change, start, end):
    """What a change makes of the stretch between two places of a row; the lines at its two sides are kept."""
    behind = behind_of(change)
    first = behind.index(start - 1) + 1 if start > 0 else 0
    last = behind.index(end) if end < len(row) else len(behind)
    return [row[line] if is_count(line) else line for line in behind[first:last]]


def touched_piece(gone, ones, others):
    if ones == others:
        return [("both", gone, ones)]
    if others == gone:
        return [("one", gone, ones)]
    if ones == gone:
        return [("other", gone, others)]
    return [("clash", gone, ones, others)]


def pieces_of(row, one, other):
    """The pieces of a row and two changes that are told for it: first the runs that stay, then what lies between."""
    pieces = []
    place = 0
    runs = runs_of(row, one, other)
    for start, end in runs + [(len(row), len(row))]:
        between = [made_between(row, change, place, start) for change in (one, other)]
        if place < start or between[0] or between[1]:
            pieces.extend(touched_piece(row[place:start], between[0], between[1]))
        if start < end:
            pieces.append(("same", row[start:end]))
        place = end
    return pieces


def parts_of(row):
    """Every row that is left when some lines of a row are cut."""
    found = set()
    for length in range(len(row) + 1):
        found.update(itertools.combinations(row, length))
    return found


def like_pairs(old, new):
    return [(i, j) for i in range(len(old)) for j in range(len(new)) if old[i] == new[j]]


def in_order(first, second):
    ahead = first[0] < second[0] and first[1] < second[1]
    behind = first[0] > second[0] and first[1] > second[1]
    return ahead or behind


def has_pairs_in_order(layer):
    """Every two pairs of a layer are tried, so this is for small layers."""
    return any(in_order(first, second) for first, second in itertools.combinations(layer, 2))


def has_pairs_in_order_fast(layer):
    """With the old places going up, and the new ones down among equals, the new places may never go up."""
    line = sorted(layer, key=lambda pair: (pair[0], -pair[1]))
    return any(ahead[1] < behind[1] for ahead, behind in zip(line, line[1:]))


def all_rows(lines, longest):
    return [list(row) for length in range(longest + 1) for row in itertools.product(lines, repeat=length)]


def all_changes(row, puts):
    """Every change of a row that puts, wherever it can put anything, one of the given lists of lines."""
    changes = []
    for keeps in itertools.product([True, False], repeat=len(row)):
        for put in itertools.product(puts, repeat=sum(keeps) + 1):
            changes.append(change_with(row, keeps, put))
    return changes


def change_with(row, keeps, put):
    """The change that keeps the lines marked so and has the given lists put between them and at the two ends."""
    change = []
    gone = []
    put = list(put)
    for line, kept in list(zip(row, keeps)) + [(None, True)]:
        if not kept:
            gone.append(line)
            continue
        come = put.pop(0)
        if gone or come:
            change.append(("swap", gone, list(come)))
        gone = []
        if line is not None:
            if change and change[-1][0] == "keep":
                change[-1] = ("keep", change[-1][1] + 1)
            else:
                change.append(("keep", 1))
    return change


def mixed_numbers(length, below, seed):
    """Numbers that look mixed but are the same in each run."""
    numbers = []
    state = seed
    for place in range(length):
        state = (state * 1103515245 + 12345) % 2147483648
        numbers.append((state >> 12) % below)
    return numbers


def mixed_change(row, seed, lines, touches):
    """A change of a row that cuts or puts at about one place of so many as told; the lists put are of the lines."""
    keeps = [number > 0 for number in mixed_numbers(len(row), touches, seed)]
    puts = [[]] * touches + [[line] for line in lines] + [[line, ""] for line in lines]
    put = [puts[number] for number in mixed_numbers(sum(keeps) + 1, len(puts), seed + 1)]
    return change_with(row, keeps, put)


def some_changes():
    """Pairs of a row and a change of it, at the edges that the document names."""
    signs = "".join(SIGNS)
    return [
        ([], []),
        ([], [("swap", [], ["a"])]),
        ([], [("swap", [], [""])]),
        ([""], [("swap", [""], [])]),
        (["a"], [("keep", 1)]),
        (["a"], [("swap", ["a"], [])]),
        (["a"], [("swap", ["a"], ["b"])]),
        (["a"], [("swap", ["a"], ["a"])]),
        (["a"], [("swap", [], ["b"]), ("keep", 1)]),
        (["a"], [("keep", 1), ("swap", [], ["b"])]),
        (["a"], [("swap", [], ["b"]), ("keep", 1), ("swap", [], ["b", "a"])]),
        (["a", "b", "c"], [("keep", 3)]),
        (["a", "b", "c"], [("keep", 1), ("swap", ["b"], ["x", "y"]), ("keep", 1)]),
        (["a", "b", "c"], [("swap", ["a"], []), ("keep", 1), ("swap", ["c"], [])]),
        (["a", "b", "c"], [("swap", ["a"], ["x"]), ("keep", 2)]),
        (["a", "b", "c"], [("keep", 2), ("swap", ["c"], ["", ""])]),
        (["a", "b", "c"], [("keep", 1), ("swap", [], ["c"]), ("keep", 2)]),
        (["a", "a", "a"], [("keep", 1), ("swap", ["a"], []), ("keep", 1)]),
        (["", "", ""], [("keep", 1), ("swap", ["", ""], ["", "", "", ""])]),
        (["=1", "-a", "+b", ""], [("swap", ["=1", "-a"], ["+b", "", "=2"]), ("keep", 1), ("swap", [""], ["-"])]),
        ([signs, "\\", "\""], [("swap", [signs], ["\"", signs]), ("keep", 1), ("swap", ["\""], SIGNS[:])]),
        (["keep", "swap"], [("swap", ["keep"], ["swap"]), ("keep", 1), ("swap", [], ["keep"])]),
    ]


def large_changes():
    """Pairs of a row of four hundred lines, or somewhat more, and a change of it."""
    numbers = [str(number) for number in range(400)]
    every_second = [("swap", [line], [line + "x"]) if place % 2 else ("keep", 1)
                    for place, line in enumerate(numbers)]
    return [
        (numbers, [("keep", 400)]),
        (numbers, [("swap", numbers[:], [])]),
        (numbers, [("swap", numbers[:], numbers[::-1])]),
        (numbers, every_second),
        ([], [("swap", [], numbers[:])]),
        (numbers, mixed_change(numbers, 5, ["a", "b"], 2)),
        (numbers, mixed_change(numbers, 6, ["a", "b"], 9)),
        (numbers + numbers[:50], mixed_change(numbers + numbers[:50], 7, numbers, 3)),
    ]


def unshared(value):
    """Whatever can be changed in what the program gave back is changed: nothing else may change with it."""
    if isinstance(value, (list, tuple)):
        for part in value:
            unshared(part)
    if isinstance(value, list):
        value.append("more")


def leaves_alone(function, *handed):
    """Whether a call leaves what is handed in as it was, and gives back nothing that is shared with it."""
    before = copy.deepcopy(handed)
    unshared(function(*handed))
    return handed == before


def mixed_row(length, kinds, seed):
    """A row that looks mixed but is the same in each run."""
    return ["line " + str(number) for number in mixed_numbers(length, kinds, seed)]


def edge_pairs():
    """Pairs of rows at the edges that the document names, but small ones."""
    return [
        ([], []),
        ([], ["a"]),
        (["a"], []),
        ([], ["a", "b", "c"]),
        (["a", "b", "c"], []),
        ([], [""]),
        ([""], []),
        ([""], [""]),
        (["", ""], [""]),
        ([""], [" "]),
        (["", "a", ""], ["a", "", "a"]),
        (["a"], ["a"]),
        (["a", "b", "c"], ["a", "b", "c"]),
        (["a"], ["b"]),
        (["a", "b", "c"], ["d", "e"]),
        (["a", "a", "a", "a"], ["a", "a"]),
        (["a", "a"], ["a", "a", "a", "a", "a"]),
        (["a", "b", "a", "b", "a"], ["b", "a", "b", "a", "b"]),
        (["a", "b", "c"], ["c", "b", "a"]),
        (["a", "A", " a", "a "], ["a ", " a", "A", "a"]),
        (["keep", "swap", "=1", "-a", "+b"], ["swap", "keep", "-a", "=1", "+b"]),
        (["1", "01", "0"], ["01", "1", "00"]),
        (SIGNS, SIGNS[::2]),
        (["".join(SIGNS), "\\", "\""], ["\"", "".join(SIGNS), "\\"]),
    ]


def large_pairs():
    """Pairs of rows of four hundred lines, or somewhat more."""
    numbers = [str(number) for number in range(400)]
    return [
        (numbers, list(numbers)),
        (numbers, numbers[::-1]),
        (numbers, numbers[1:] + numbers[:1]),
        (numbers, ["x" + line for line in numbers]),
        (numbers, []),
        ([], numbers),
        (["a"] * 400, ["a"] * 400),
        ([""] * 400, [""] * 399 + ["a"]),
        (["a", "b"] * 200, ["b", "a"] * 200),
        (mixed_row(400, 2, 1), mixed_row(400, 2, 2)),
        (mixed_row(400, 40, 3), mixed_row(400, 40, 4)),
        (mixed_row(400, 400, 5), mixed_row(400, 400, 6)),
        (mixed_row(450, 5, 7), mixed_row(420, 5, 8)),
    ]

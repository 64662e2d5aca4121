"""What several tests need: checks of changes and covers, and rows to try them on.

Nothing here calls the program: the checks reckon by themselves what the document asks.
"""

import itertools

SIGNS = [chr(code) for code in range(ord(" "), ord("~") + 1) if chr(code) != "%"]


def is_count(value):
    return isinstance(value, int) and not isinstance(value, bool)


def is_lines(value):
    return isinstance(value, list) and all(isinstance(line, str) for line in value)


def is_block(block):
    if not isinstance(block, tuple) or not block:
        return False
    if block[0] == "keep":
        return len(block) == 2 and is_count(block[1]) and block[1] >= 1
    if block[0] == "swap":
        return len(block) == 3 and is_lines(block[1]) and is_lines(block[2]) and bool(block[1] or block[2])
    return False


def is_change(change):
    if not isinstance(change, list) or not all(is_block(block) for block in change):
        return False
    return all(ahead[0] != behind[0] for ahead, behind in zip(change, change[1:]))


def row_behind(change, row):
    """The row behind a change, or None where it is not told for the row."""
    behind = []
    place = 0
    for block in change:
        if block[0] == "keep":
            if place + block[1] > len(row):
                return None
            behind.extend(row[place:place + block[1]])
            place += block[1]
        else:
            if row[place:place + len(block[1])] != block[1]:
                return None
            behind.extend(block[2])
            place += len(block[1])
    return behind if place == len(row) else None


def kept_by(change):
    return sum(block[1] for block in change if block[0] == "keep")


def moved_by(change):
    """The size of a change, counted line by line."""
    count = 0
    for block in change:
        if block[0] == "swap":
            for lines in block[1:]:
                for line in lines:
                    count += 1
    return count


def parts_of(row):
    """Every row that is left when some lines of a row are cut."""
    found = set()
    for length in range(len(row) + 1):
        found.update(itertools.combinations(row, length))
    return found


def like_pairs(old, new):
    return [(i, j) for i in range(len(old)) for j in range(len(new)) if old[i] == new[j]]


def in_order(first, second):
    ahead = first[0] < second[0] and first[1] < second[1]
    behind = first[0] > second[0] and first[1] > second[1]
    return ahead or behind


def has_pairs_in_order(layer):
    """Every two pairs of a layer are tried, so this is for small layers."""
    return any(in_order(first, second) for first, second in itertools.combinations(layer, 2))


def has_pairs_in_order_fast(layer):
    """With the old places going up, and the new ones down among equals, the new places may never go up."""
    line = sorted(layer, key=lambda pair: (pair[0], -pair[1]))
    return any(ahead[1] < behind[1] for ahead, behind in zip(line, line[1:]))


def all_rows(lines, longest):
    return [list(row) for length in range(longest + 1) for row in itertools.product(lines, repeat=length)]


def mixed_row(length, kinds, seed):
    """A row that looks mixed but is the same in each run."""
    row = []
    state = seed
    for place in range(length):
        state = (state * 1103515245 + 12345) % 2147483648
        row.append("line " + str((state >> 12) % kinds))
    return row


def edge_pairs():
    """Pairs of rows at the edges that the document names, but small ones."""
    return [
        ([], []),
        ([], ["a"]),
        (["a"], []),
        ([], ["a", "b", "c"]),
        (["a", "b", "c"], []),
        ([], [""]),
        ([""], []),
        ([""], [""]),
        (["", ""], [""]),
        ([""], [" "]),
        (["", "a", ""], ["a", "", "a"]),
        (["a"], ["a"]),
        (["a", "b", "c"], ["a", "b", "c"]),
        (["a"], ["b"]),
        (["a", "b", "c"], ["d", "e"]),
        (["a", "a", "a", "a"], ["a", "a"]),
        (["a", "a"], ["a", "a", "a", "a", "a"]),
        (["a", "b", "a", "b", "a"], ["b", "a", "b", "a", "b"]),
        (["a", "b", "c"], ["c", "b", "a"]),
        (["a", "A", " a", "a "], ["a ", " a", "A", "a"]),
        (["keep", "swap", "=1", "-a", "+b"], ["swap", "keep", "-a", "=1", "+b"]),
        (["1", "01", "0"], ["01", "1", "00"]),
        (SIGNS, SIGNS[::2]),
        (["".join(SIGNS), "\\", "\""], ["\"", "".join(SIGNS), "\\"]),
    ]


def large_pairs():
    """Pairs of rows of four hundred lines, or somewhat more."""
    numbers = [str(number) for number in range(400)]
    return [
        (numbers, list(numbers)),
        (numbers, numbers[::-1]),
        (numbers, numbers[1:] + numbers[:1]),
        (numbers, ["x" + line for line in numbers]),
        (numbers, []),
        ([], numbers),
        (["a"] * 400, ["a"] * 400),
        ([""] * 400, [""] * 399 + ["a"]),
        (["a", "b"] * 200, ["b", "a"] * 200),
        (mixed_row(400, 2, 1), mixed_row(400, 2, 2)),
        (mixed_row(400, 40, 3), mixed_row(400, 40, 4)),
        (mixed_row(400, 400, 5), mixed_row(400, 400, 6)),
        (mixed_row(450, 5, 7), mixed_row(420, 5, 8)),
    ]

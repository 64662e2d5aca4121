"""Comparing two rows: the least change between them, and the cover that shows that it is the least."""

from rowmend.blocks import tidied


def change_of(old, new):
    parts = []
    i = 0
    j = 0
    for pair in kept_pairs(old, new):
        parts.append(("swap", old[i:pair[0]], new[j:pair[1]]))
        parts.append(("keep", 1))
        i = pair[0] + 1
        j = pair[1] + 1
    parts.append(("swap", old[i:], new[j:]))
    return tidied(parts)


# Of two like pairs in order, the one ahead can be kept and then all that the other can keep, so the most
# lines kept from the one ahead on are more. Pairs with the same number are therefore never in order.
def cover(old, new):
    kept = most_kept(old, new)
    layers = [[] for k in range(kept[0][0])]
    for i in range(len(old)):
        for j in range(len(new)):
            if old[i] == new[j]:
                layers[kept[i][j] - 1].append((i, j))
    return layers


# The like pairs of the lines that stay, in order. Where both rows go on with the same line it is kept at
# once: no change keeps more without it.
def kept_pairs(old, new):
    kept = most_kept(old, new)
    pairs = []
    i = 0
    j = 0
    while i < len(old) and j < len(new):
        if old[i] == new[j]:
            pairs.append((i, j))
            i += 1
            j += 1
        elif kept[i + 1][j] >= kept[i][j + 1]:
            i += 1
        else:
            j += 1
    return pairs


# At [i][j] stands how many lines a change of old[i:] to new[j:] keeps at most. It is reckoned from the ends
# of the rows, so that a walk from their beginnings can choose its way by it.
def most_kept(old, new):
    kept = [[0] * (len(new) + 1) for i in range(len(old) + 1)]
    for i in range(len(old) - 1, -1, -1):
        for j in range(len(new) - 1, -1, -1):
            if old[i] == new[j]:
                kept[i][j] = kept[i + 1][j + 1] + 1
            else:
                kept[i][j] = max(kept[i + 1][j], kept[i][j + 1])
    return kept

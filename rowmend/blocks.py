"""The blocks that a change is made of: ("keep", n) and ("swap", gone, come)."""


def size_of(change):
    return sum([len(block[1]) + len(block[2]) for block in change if block[0] == "swap"])


# Only these lines of a block stand in the row ahead of the change: what it puts is not there yet.
def kept_and_cut(block):
    if block[0] == "keep":
        return block[1]
    return len(block[1])


# Only these stand in the row behind the change: what it cuts is there no more.
def kept_and_put(block):
    if block[0] == "keep":
        return block[1]
    return len(block[2])


# A walk along a row finds a change in small parts, some of them empty and many of one kind side by side.
# Only here are they brought into the form of a change, so that no walk has to look after it.
def tidied(parts):
    change = []
    for part in parts:
        if is_empty(part):
            continue
        if change and change[-1][0] == part[0]:
            change[-1] = united(change[-1], part)
        else:
            change.append(part)
    return change


def is_empty(part):
    if part[0] == "keep":
        return part[1] == 0
    return not part[1] and not part[2]


def united(ahead, behind):
    if ahead[0] == "keep":
        return ("keep", ahead[1] + behind[1])
    return ("swap", ahead[1] + behind[1], ahead[2] + behind[2])

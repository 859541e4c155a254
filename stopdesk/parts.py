"""What a part comes to."""

from stopdesk.words import MODULUS, things_within


def reckoned(part, names, cells):
    """The number of a part, of what the names and the cells hold."""
    numbers = []
    # From the last one back, those within a part are reckoned ahead of it, its first one last.
    for thing in reversed(_things_of(part)):
        if thing[0] == "num":
            numbers.append(thing[1])
        elif thing[0] == "name":
            numbers.append(names[thing[1]])
        elif thing[0] == "cell":
            numbers.append(cells[thing[1]])
        else:
            one = numbers.pop()
            other = numbers.pop()
            numbers.append(_joined(thing[0], one, other))
    return numbers[0]


def _things_of(part):
    """A part and all within it, each ahead of those within it (a wish may be too deep to recurse)."""
    found = []
    waiting = [part]
    while waiting:
        thing = waiting.pop()
        found.append(thing)
        within = things_within(thing, False)
        waiting.extend([inner for inner, _ in reversed(within)])
    return found


def _joined(word, one, other):
    if word == "add":
        return (one + other) % MODULUS
    if word == "take":
        return (one - other) % MODULUS
    if word == "times":
        return one * other % MODULUS
    if word == "less":
        return 1 if one < other else 0
    return 1 if one == other else 0

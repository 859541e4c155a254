"""The words of deeds and parts, what stands behind each, and the numbers that can be held."""

# The numbers that names and cells hold are rests by this one.
MODULUS = 10007

PARTS = {
    "num": ("number",),
    "name": ("name",),
    "cell": ("cell",),
    "add": ("part", "part"),
    "take": ("part", "part"),
    "times": ("part", "part"),
    "less": ("part", "part"),
    "same": ("part", "part"),
}

DEEDS = {
    "set": ("name", "part"),
    "put": ("cell", "part"),
    "say": ("part",),
    "if": ("part", "body", "body"),
    "again": ("part", "body"),
    "call": ("fun", "parts", "name"),
    "return": ("part",),
}


def is_number(what):
    """Whether it is a whole number; a truth is none."""
    return isinstance(what, int) and not isinstance(what, bool)


def can_be_held(what):
    """Whether a name or a cell can hold it."""
    return is_number(what) and 0 <= what < MODULUS


def kinds_behind(word, is_deed):
    """The kinds of what stands behind a word, or None where there is no such word."""
    return DEEDS.get(word) if is_deed else PARTS.get(word)


def things_within(thing, is_deed):
    """(deed or part, whether it is a deed) of all that stand right within a thing, in their order."""
    found = []
    for kind, what in zip(kinds_behind(thing[0], is_deed), thing[1:]):
        if kind == "part":
            found.append((what, False))
        elif kind == "parts":
            found.extend([(part, False) for part in what])
        elif kind == "body":
            found.extend([(deed, True) for deed in what])
    return found


def joins_parts(word):
    """Whether it is the word of a part that stands ahead of two others."""
    return PARTS.get(word) == ("part", "part")

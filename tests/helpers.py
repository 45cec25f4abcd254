"""What several tests use."""


def at(text, part, number=0):
    """The start of a part of a text, of several the one with this number."""
    found = -1
    for _ in range(number + 1):
        found = text.index(part, found + 1)
    return found


def place(text, part, number=0):
    """The place of a part of a text."""
    start = at(text, part, number)
    return (start, start + len(part))


def problem(text, part, code, number=0):
    """A problem at a part of a text."""
    return place(text, part, number) + (code,)

"""The chunks into which a text is cut."""


def chunks(text):
    """Return the list of the places of the chunks of a text."""
    starts = []
    at = 0
    for line in text.split("\n"):
        if line and line[0] != " ":
            starts.append(at)
        at += len(line) + 1
    return list(zip(starts, starts[1:] + [len(text)]))

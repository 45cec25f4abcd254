"""Texts, the edits that change them, and their lines."""

from samenames.errors import InvalidEdit

LONGEST = 4000
# The percent sign by its number, since no string of the program may contain it.
PERCENT = 37


def may_stand(characters):
    """Return True if each of the characters may stand in a text."""
    for sign in characters:
        if sign != "\n" and not " " <= sign <= "~":
            return False
        if ord(sign) == PERCENT:
            return False
    return True


def is_text(value):
    """Return True if the string is a text."""
    return len(value) <= LONGEST and may_stand(value)


def apply_joint(text, edits):
    """Return the text after edits whose places all count in the text as it was before."""
    parts = []
    done = 0
    for start, end, new in edits:
        if not done <= start <= end <= len(text):
            raise InvalidEdit("a place is not in the text, or not in order")
        if not may_stand(new):
            raise InvalidEdit("a character may not stand in a text")
        parts.append(text[done:start])
        parts.append(new)
        done = end
    parts.append(text[done:])
    result = "".join(parts)
    # Only the whole result counts: a part of the edits alone may make the text too long.
    if len(result) > LONGEST:
        raise InvalidEdit("the text would be too long")
    return result


def apply_edit(text, edit):
    """Return the text after the edit."""
    return apply_joint(text, [edit])


def inverse(text, edit):
    """Return the edit that turns the text after the edit back into the text."""
    # For the error alone: an edit that does not fit has no inverse.
    apply_edit(text, edit)
    start, end, new = edit
    return (start, start + len(new), text[start:end])


def common_length(first, second):
    """Return the length of the longest common beginning of two strings."""
    length = 0
    for one, other in zip(first, second):
        if one != other:
            break
        length += 1
    return length


def difference(old, new):
    """Return the shortest edit behind the common beginning that turns old into new."""
    start = common_length(old, new)
    # The common end is looked for in the rests, so that it cannot overlap the common beginning.
    behind = common_length(old[start:][::-1], new[start:][::-1])
    return (start, len(old) - behind, new[start:len(new) - behind])


def line_start(text, offset):
    """Return the offset at which the line of an offset begins."""
    return text.rfind("\n", 0, offset) + 1


def line_end(text, offset):
    """Return the offset of the newline of the line of an offset, or the length of the text."""
    found = text.find("\n", offset)
    return len(text) if found < 0 else found


def line_column(text, offset):
    """Return the line of an offset and its index in the line."""
    return (text.count("\n", 0, offset), offset - line_start(text, offset))


def offset_at(text, line, column):
    """Return the offset of a character of a line; what is too great is cut back to the last."""
    lines = text.split("\n")
    before = lines[:min(line, len(lines) - 1)]
    start = sum([len(row) + 1 for row in before])
    return start + min(column, len(lines[len(before)]))

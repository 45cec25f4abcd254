"""The tokens of a text, and which of them an edit leaves as they are."""

from samenames.texts import apply_edit, line_end, line_start

WORDS = ("import", "data", "trait", "with", "impl", "for", "def", "let", "in", "if", "then", "else",
         "loop", "times", "do", "not", "and", "or", "True", "False")
SIGNS = "()[],:.=<+-*/"
# Numbers are counted modulo this.
NUMBERS = 4294967296


def is_letter(sign):
    """Return True for a to z and A to Z; the methods of strings would take other letters, too."""
    return "a" <= sign <= "z" or "A" <= sign <= "Z"


def is_digit(sign):
    """Return True for 0 to 9."""
    return "0" <= sign <= "9"


def word_end(text, start):
    """Return the end of the letters, digits and underscores that begin at the start."""
    end = start
    while end < len(text) and (is_letter(text[end]) or is_digit(text[end]) or text[end] == "_"):
        end += 1
    return end


def digits_end(text, start):
    """Return the end of the digits that begin at the start."""
    end = start
    while end < len(text) and is_digit(text[end]):
        end += 1
    return end


def token_at(text, start):
    """Return the token that begins at the start, where neither a blank nor a comment stands."""
    sign = text[start]
    if is_letter(sign):
        end = word_end(text, start)
        return ("word" if text[start:end] in WORDS else "name", start, end)
    if is_digit(sign):
        return ("number", start, digits_end(text, start))
    if text[start:start + 2] == "==":
        return ("sign", start, start + 2)
    return ("sign" if sign in SIGNS else "wrong", start, start + 1)


def tokens_between(text, start, end):
    """Return the list of the tokens of whole lines: from the start of one to the end of one."""
    found = []
    at = start
    while at < end:
        if text[at] == " " or text[at] == "\n":
            at += 1
        elif text[at] == "#":
            at = line_end(text, at)
        else:
            token = token_at(text, at)
            found.append(token)
            at = token[2]
    return found


def tokens(text):
    """Return the list of the tokens of a text."""
    return tokens_between(text, 0, len(text))


def relexed(text, old, edit):
    """Return the tokens after an edit, and how many were kept before and behind it.

    No token and no comment goes beyond its line. So those of lines that the
    edit does not touch are found again where they were, or moved with them.
    """
    after = apply_edit(text, edit)
    start, end, new = edit
    moved = len(new) - (end - start)
    first = line_start(text, start)
    last = line_end(text, end)
    before = [token for token in old if token[1] < first]
    between = tokens_between(after, first, last + moved)
    behind = [(sort, at + moved, to + moved) for sort, at, to in old if at > last]
    return (before + between + behind, len(before), len(behind))


def is_name(value):
    """Return True if the string is a single token of sort "name" and nothing else."""
    return tokens(value) == [("name", 0, len(value))]


def number_value(digits):
    """Return the value of a token of sort "number", given its digits."""
    value = 0
    # Digit by digit, since a text can hold more digits than a number should have.
    for digit in digits:
        value = (value * 10 + int(digit)) % NUMBERS
    return value

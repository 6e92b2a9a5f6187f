"""The marks of texts."""

LETTERS = "abcdefghijklmnopqrstuvwxyz"
DIGITS = "0123456789"


def marks_of(text):
    """Return the marks of a string as `(line, at, mark)`, in their sequence."""
    marks = []
    line = 0
    begin = 0
    at = 0
    while at < len(text):
        end = mark_end(text, at)
        if text[at] != " ":
            marks.append((line, at - begin, text[at:end]))
        if text[at] == "\n":
            line += 1
            begin = end
        at = end
    return tuple(marks)


def mark_end(text, at):
    """Return the index behind the mark, or the blank, that begins at an index."""
    for signs in (LETTERS, DIGITS):
        if text[at] in signs:
            return run_end(text, at, signs)
    return at + 1


def run_end(text, at, signs):
    """Return the index behind the longest run of signs that begins at an index."""
    end = at
    while end < len(text) and text[end] in signs:
        end += 1
    return end

"""Rows: each writes a deed, in words with one blank between."""

FIGURES = "0123456789"


def row_of(deed):
    """Write a deed that can be."""
    return " ".join([word_of(part) for part in deed])


def word_of(part):
    if isinstance(part, tuple):
        return ",".join([str(number) for number in part])
    return str(part)


def deed_of(row):
    """Read a row; None stands where a number belongs and none is written, so that such a deed can't be."""
    words = row.split(" ")
    parts = [number_of(word) for word in words[1:]]
    if words[0] == "parcel" and len(parts) == 3:
        parts[2] = tuple([number_of(word) for word in words[3].split(",")])
    return (words[0], *parts)


def number_of(word):
    """Read a number of one to three figures, or tell None."""
    figures = word.removeprefix("-")
    if not 1 <= len(figures) <= 3 or not all([figure in FIGURES for figure in figures]):
        return None
    number = int(word)
    # Written anew it differs if a figure was needless, or if it was -0.
    return number if str(number) == word else None

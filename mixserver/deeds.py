"""Deeds: tuples of a word and what belongs to it."""

from mixserver.checks import is_whole
from mixserver.errors import BadDeed

MOST_DEEDS = 300

# How many parts stand behind each word.
PARTS = {"add": 5, "parcel": 3, "end": 2, "lead": 3, "hush": 1, "wake": 1, "beat": 0}


def check_deeds(deeds):
    """Refuse deeds of which one can't be, or that are too many."""
    for number, deed in enumerate(deeds):
        if number >= MOST_DEEDS or not is_deed(deed):
            raise BadDeed(number)


def is_deed(deed):
    """Tell whether a deed can be by its form; a mixer may refuse it all the same."""
    if not isinstance(deed, tuple) or len(deed) == 0:
        return False
    word, *parts = deed
    if not isinstance(word, str) or PARTS.get(word) != len(parts):
        return False
    if word == "parcel":
        return are_plain(parts[:2]) and is_parcel(parts[2])
    return are_plain(parts)


def are_plain(parts):
    return all([is_whole(part, 0, 999) for part in parts])


def is_parcel(numbers):
    if not isinstance(numbers, tuple) or not is_whole(len(numbers), 1, 32):
        return False
    return all([is_whole(number, -999, 999) for number in numbers])

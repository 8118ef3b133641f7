"""Where a pace leads: a voice among its numbers, and a sender that makes them.

A pace is a tuple (numbers, beats): that many numbers in that many beats.
"""


def spot(pace, passed):
    """Tell the whole place at or ahead of a voice's, so many beats behind its begin, and the rest in parts of beats."""
    numbers, beats = pace
    return divmod(passed * numbers, beats)


def wanted(pace, passed):
    """Tell the whole places that a voice wants, so many beats behind its begin."""
    low, rest = spot(pace, passed)
    return [low] if rest == 0 else [low, low + 1]


def made(pace, place):
    """Tell how many beats behind its begin a sender makes the number at this place."""
    numbers, beats = pace
    # Rounded up: no less than place * beats / numbers beats lie ahead.
    return (place * beats + numbers - 1) // numbers

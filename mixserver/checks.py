"""What may be handed in, and how the rest is refused."""

from mixserver.errors import BadArrivals, BadBounds, BadLead, BadName, BadPace, BadSoft, BadWait

MOST_ARRIVALS = 30


def is_whole(number, low, high):
    """Tell whether this is a whole number from low to high."""
    # Python takes True and False for 1 and 0, the document doesn't.
    if isinstance(number, bool) or not isinstance(number, int):
        return False
    return low <= number <= high


def check_soft(soft):
    if not is_whole(soft, 1, 16):
        raise BadSoft("voices rise and fall in 1 to 16 beats")


def check_name(name):
    if not is_whole(name, 0, 5):
        raise BadName("names are the numbers 0 to 5")


def check_pace(pace):
    if not isinstance(pace, tuple) or len(pace) != 2:
        raise BadPace("a pace is a tuple (numbers, beats)")
    if not all([is_whole(number, 1, 8) for number in pace]):
        raise BadPace("the numbers and the beats of a pace are 1 to 8 each")


def check_wait(wait):
    if not is_whole(wait, 0, 64):
        raise BadWait("a wait is 0 to 64 beats")


def check_loudness(loudness):
    if not is_whole(loudness, 0, 64):
        raise BadLead("a loudness is 0 to 64")


def check_lead(loudness, beats):
    check_loudness(loudness)
    if not is_whole(beats, 1, 64):
        raise BadLead("a voice is led in 1 to 64 beats")


def check_many(many):
    if not is_whole(many, 1, 32):
        raise BadBounds("a parcel is 1 to 32 numbers")


def check_late(late):
    if not is_whole(late, 0, 99):
        raise BadBounds("parcels are late by 0 to 99 beats")


def check_arrivals(arrivals):
    for number, beat in enumerate(arrivals):
        if number >= MOST_ARRIVALS or not is_whole(beat, 0, 9999):
            raise BadArrivals(number)

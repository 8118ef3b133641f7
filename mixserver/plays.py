"""Plays: deeds that are done one behind the other, and how they are written."""

from mixserver.deeds import MOST_DEEDS, check_deeds, is_deed
from mixserver.errors import BadText
from mixserver.mixer import Mixer
from mixserver.rows import deed_of, row_of


def played(soft, deeds):
    """Do all deeds, and tell what their beats tell, what was missed, and the states."""
    mixer = Mixer(soft)
    check_deeds(deeds)
    sums = []
    for deed in deeds:
        do(mixer, deed, sums)
    return (sums, mixer.missed(), mixer.states())


def do(mixer, deed, sums):
    """Do a deed that can be; what a beat tells goes behind the sums."""
    match deed:
        case ("add", name, numbers, beats, wait, loudness):
            mixer.add(name, (numbers, beats), wait, loudness)
        case ("parcel", name, place, numbers):
            mixer.parcel(name, place, list(numbers))
        case ("end", name, many):
            mixer.end(name, many)
        case ("lead", name, loudness, beats):
            mixer.lead(name, loudness, beats)
        case ("hush", name):
            mixer.hush(name)
        case ("wake", name):
            mixer.wake(name)
        case ("beat",):
            sums.append(mixer.beat())


def written(deeds):
    """Write deeds as rows."""
    check_deeds(deeds)
    return "\n".join([row_of(deed) for deed in deeds])


def read(text):
    """Read the deeds that a text writes."""
    # The empty text has no row, but split tells one.
    rows = [] if text == "" else text.split("\n")
    deeds = [deed_of(row) for row in rows]
    for number, deed in enumerate(deeds):
        if number >= MOST_DEEDS or not is_deed(deed):
            raise BadText(number)
    return deeds

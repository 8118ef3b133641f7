"""Which wait is enough, and what is missed if parcels come when they come."""

from mixserver.checks import check_arrivals, check_late, check_many, check_pace, check_wait
from mixserver.paces import made, wanted


def enough(pace, many, late):
    """Tell the least wait by which no number is missed, if parcels of so many are no later than this."""
    check_pace(pace)
    check_many(many)
    check_late(late)
    # Behind so many beats both the numbers of the pace and the parcels begin anew, so all gaps come again.
    beats = pace[1] * many
    return max([gap(pace, many, passed) for passed in range(beats)]) + late


def gap(pace, many, passed):
    """Tell how far behind the sender a voice must be for its wants, so many beats behind its begin, to be there."""
    parcel = wanted(pace, passed)[-1] // many
    last = (parcel + 1) * many - 1
    return made(pace, last) - passed


def judged(pace, wait, many, arrivals):
    """Tell all beats, from the sender's begin on, that are missed if the parcels come at these."""
    check_pace(pace)
    check_wait(wait)
    check_many(many)
    check_arrivals(arrivals)
    missed = []
    passed = 0
    places = wanted(pace, passed)
    while places[-1] < many * len(arrivals):
        beat = wait + passed
        if any([arrivals[place // many] > beat for place in places]):
            missed.append(beat)
        passed += 1
        places = wanted(pace, passed)
    return missed

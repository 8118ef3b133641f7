"""The numbers of a voice, and the straight lines between them."""

from mixserver.checks import is_whole
from mixserver.errors import BadEnd, BadParcel
from mixserver.paces import spot, wanted
from mixserver.ratios import ratio

# A voice's places are 0 to 999.
MOST = 1000


class Line:
    """The numbers that came, by their places, and where a beat is among them."""

    def __init__(self, pace, begin):
        self.pace = pace
        self.begin = begin
        self.came = {}
        self.reach = 0
        self.many = None

    def take(self, place, numbers):
        """Take a parcel, or refuse it whole."""
        if not is_whole(place, 0, MOST - 1):
            raise BadParcel("places are 0 to 999")
        if not is_whole(len(numbers), 1, 32):
            raise BadParcel("a parcel is 1 to 32 numbers")
        if not all([is_whole(number, -999, 999) for number in numbers]):
            raise BadParcel("the numbers of a parcel are -999 to 999")
        behind = place + len(numbers)
        if behind > self.room():
            raise BadParcel("the parcel goes beyond the last place")
        for at, number in enumerate(numbers, start=place):
            self.came.setdefault(at, number)
        self.reach = max(self.reach, behind)

    def close(self, many):
        """Take how many numbers there are in all, or refuse it."""
        if self.many is not None:
            raise BadEnd("the end was told")
        if not is_whole(many, 1, MOST):
            raise BadEnd("a voice has 1 to 1000 numbers in all")
        if many < self.reach:
            raise BadEnd("numbers behind this end came")
        self.many = many

    def room(self):
        """Tell how many places there are, as far as is known."""
        return MOST if self.many is None else self.many

    def begun(self, beat):
        return beat >= self.begin

    def wants(self, beat):
        """Tell the whole places that the beat wants."""
        return wanted(self.pace, beat - self.begin)

    def over(self, beat):
        return self.many is not None and self.wants(beat)[-1] >= self.many

    def lacks(self, beat):
        """Tell whether the beat wants what didn't come."""
        if not self.begun(beat) or self.over(beat):
            return False
        return any([at not in self.came for at in self.wants(beat)])

    def ready(self, beat):
        """Tell whether the line has a value at the beat."""
        return self.begun(beat) and not self.over(beat) and not self.lacks(beat)

    def value(self, beat):
        """Tell the value at a beat for which the line is ready."""
        low, rest = spot(self.pace, beat - self.begin)
        if rest == 0:
            return ratio(self.came[low], 1)
        beats = self.pace[1]
        return ratio(self.came[low] * (beats - rest) + self.came[low + 1] * rest, beats)

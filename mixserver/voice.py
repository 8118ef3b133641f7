"""One voice: its line, its loudness, and how it rises and falls."""

from mixserver.line import Line
from mixserver.loudness import Loudness
from mixserver.ratios import NOTHING, ratio, times

HUSHED = "hushed"
RISING = "rising"
ON = "on"
FALLING = "falling"


class Voice:
    """A voice that gives a part each beat."""

    def __init__(self, pace, begin, loudness):
        self.line = Line(pace, begin)
        self.loudness = Loudness(loudness)
        self.heard = True
        self.state = HUSHED
        self.steps = 0
        self.part = NOTHING
        self.height = NOTHING

    def give(self, beat, soft):
        """Do a beat, and tell the part for it."""
        self.loudness.lead_on()
        may_sound = self.heard and self.line.ready(beat)
        if self.state == FALLING:
            # A fall goes on to its end, whatever may sound.
            self.fall(soft)
        elif may_sound:
            self.sound(times(self.line.value(beat), self.loudness.level), soft)
        elif self.state != HUSHED:
            self.begin_fall(soft)
        return self.part

    def sound(self, whole, soft):
        if self.state == ON:
            self.part = whole
            return
        if self.state == HUSHED:
            self.state = RISING
            self.steps = 0
        self.rise(whole, soft)

    def rise(self, whole, soft):
        self.steps += 1
        self.part = times(whole, ratio(self.steps, soft))
        if self.steps == soft:
            self.state = ON

    def begin_fall(self, soft):
        self.state = FALLING
        self.steps = 0
        self.height = self.part
        self.fall(soft)

    def fall(self, soft):
        self.steps += 1
        self.part = times(self.height, ratio(soft - self.steps, soft))
        if self.steps == soft:
            self.state = HUSHED

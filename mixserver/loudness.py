"""How loud a voice is."""

from mixserver.ratios import NOTHING, minus, plus, ratio, times

# Loudness is handed in as a number of such parts of the full one.
FULL = 64


class Loudness:
    """A loudness that is led in equal steps, one in a beat."""

    def __init__(self, loudness):
        self.level = ratio(loudness, FULL)
        self.stride = NOTHING
        self.left = 0

    def lead_to(self, loudness, beats):
        """Go from what it is now to this loudness, in so many beats."""
        gap = minus(ratio(loudness, FULL), self.level)
        self.stride = times(gap, (1, beats))
        self.left = beats

    def lead_on(self):
        """Do one step, if any is left."""
        if self.left > 0:
            self.level = plus(self.level, self.stride)
            self.left -= 1

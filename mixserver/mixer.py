"""The mixer: what all voices give, put together beat by beat."""

from mixserver.checks import check_lead, check_loudness, check_name, check_pace, check_soft, check_wait
from mixserver.errors import NoVoice, There
from mixserver.ratios import NOTHING, plus
from mixserver.voice import Voice


class Mixer:
    """Voices by their names, and the beat that comes next."""

    def __init__(self, soft):
        check_soft(soft)
        self.soft = soft
        self.coming = 0
        self.voices = {}
        self.lacked = []

    def add(self, name, pace, wait, loudness):
        """Add a voice that begins so many beats behind the next one."""
        check_name(name)
        if name in self.voices:
            raise There(f"voice {name} is there")
        check_pace(pace)
        check_wait(wait)
        check_loudness(loudness)
        self.voices[name] = Voice(pace, self.coming + wait, loudness)

    def parcel(self, name, place, numbers):
        """Hand a voice numbers, from a place on."""
        self.voice_of(name).line.take(place, numbers)

    def end(self, name, many):
        """Tell how many numbers a voice has in all."""
        self.voice_of(name).line.close(many)

    def lead(self, name, loudness, beats):
        """Lead a voice to a loudness in so many beats."""
        voice = self.voice_of(name)
        check_lead(loudness, beats)
        voice.loudness.lead_to(loudness, beats)

    def hush(self, name):
        """Tell that a voice isn't to be heard."""
        voice = self.voice_of(name)
        voice.heard = False

    def wake(self, name):
        """Tell that a voice is to be heard."""
        voice = self.voice_of(name)
        voice.heard = True

    def beat(self):
        """Do the next beat, and tell the sum of all parts."""
        total = NOTHING
        for name in sorted(self.voices):
            voice = self.voices[name]
            if voice.line.lacks(self.coming):
                self.lacked.append((name, self.coming))
            total = plus(total, voice.give(self.coming, self.soft))
        self.coming += 1
        return total

    def now(self):
        """Tell the number of the next beat."""
        return self.coming

    def missed(self):
        """Tell (name, beat) of each beat that wanted what hadn't come, by beats, then names."""
        return list(self.lacked)

    def states(self):
        """Tell (name, state, part, loudness) of all voices, by names."""
        return [self.state_of(name) for name in sorted(self.voices)]

    def state_of(self, name):
        voice = self.voices[name]
        return (name, voice.state, voice.part, voice.loudness.level)

    def voice_of(self, name):
        check_name(name)
        if name not in self.voices:
            raise NoVoice(f"no voice {name} is there")
        return self.voices[name]

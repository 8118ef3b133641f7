"""A second mixer, made in another way: it is slow, and checks nothing."""

from fractions import Fraction


def course(soft):
    """Take (may sound, whole) of each beat, and tell (state, part) for it."""
    may, whole = yield
    while True:
        while not may:
            may, whole = yield "hushed", Fraction(0)
        part = Fraction(0)
        for k in range(1, soft + 1):
            if not may:
                break
            part = whole * k / soft
            may, whole = yield "on" if k == soft else "rising", part
        else:
            while may:
                part = whole
                may, whole = yield "on", part
        top = part
        for k in range(1, soft + 1):
            may, whole = yield "hushed" if k == soft else "falling", top * (soft - k) / soft


class ModelVoice:
    def __init__(self, soft, pace, begin, loudness):
        self.pace = Fraction(*pace)
        self.begin = begin
        self.came = {}
        self.many = None
        self.heard = True
        # A lead: from what, to what, since which beat, in how many.
        self.led = (Fraction(loudness, 64), Fraction(loudness, 64), 0, 1)
        self.course = course(soft)
        next(self.course)
        self.told = ("hushed", Fraction(0))
        self.missed = []

    def loudness(self, beat):
        """Tell the loudness when so many beats are done."""
        source, target, since, many = self.led
        done = min(beat - since, many)
        return source + (target - source) * Fraction(done, many)

    def lead(self, beat, loudness, many):
        self.led = (self.loudness(beat), Fraction(loudness, 64), beat, many)

    def beat(self, beat):
        place = (beat - self.begin) * self.pace
        wants = {place.numerator // place.denominator, -(-place.numerator // place.denominator)}
        over = self.many is not None and max(wants) >= self.many
        lacks = not wants <= set(self.came)
        if beat >= self.begin and not over and lacks:
            self.missed.append(beat)
        whole = Fraction(0)
        may = beat >= self.begin and not over and not lacks and self.heard
        if may:
            low, high = min(wants), max(wants)
            whole = self.came[low] + (place - low) * (self.came[high] - self.came[low])
            whole *= self.loudness(beat + 1)
        self.told = self.course.send((may, whole))
        return self.told[1]


def pair(fraction):
    return (fraction.numerator, fraction.denominator)


class Model:
    def __init__(self, soft):
        self.soft = soft
        self.coming = 0
        self.voices = {}

    def add(self, name, pace, wait, loudness):
        self.voices[name] = ModelVoice(self.soft, pace, self.coming + wait, loudness)
        self.voices[name].led = (Fraction(loudness, 64), Fraction(loudness, 64), self.coming, 1)

    def parcel(self, name, place, numbers):
        for number in numbers:
            if place not in self.voices[name].came:
                self.voices[name].came[place] = number
            place += 1

    def end(self, name, many):
        self.voices[name].many = many

    def lead(self, name, loudness, many):
        self.voices[name].lead(self.coming, loudness, many)

    def hush(self, name):
        self.voices[name].heard = False

    def wake(self, name):
        self.voices[name].heard = True

    def beat(self):
        total = sum((voice.beat(self.coming) for voice in self.voices.values()), Fraction(0))
        self.coming += 1
        return pair(total)

    def now(self):
        return self.coming

    def missed(self):
        rows = [(beat, name) for name, voice in self.voices.items() for beat in voice.missed]
        return [(name, beat) for beat, name in sorted(rows)]

    def states(self):
        return [(name, voice.told[0], pair(voice.told[1]), pair(voice.loudness(self.coming)))
                for name, voice in sorted(self.voices.items())]

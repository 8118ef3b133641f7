"""Point 3: add, and where a voice is at a beat."""

import unittest
from fractions import Fraction

from mixserver.errors import BadLead, BadName, BadPace, BadWait, There
from mixserver.mixer import Mixer
from tests.helpers import FULL, beats, hand_all, mixer_of, refuse, whole

NUMBERS = [(place * place * 37 + place * 411 + 5) % 1999 - 999 for place in range(200)]


class Bounds(unittest.TestCase):
    def test_there(self):
        mixer = Mixer(1)
        mixer.add(0, (1, 1), 0, FULL)
        refuse(self, There, mixer, "add", 0, (1, 1), 0, FULL)
        refuse(self, There, mixer, "add", 0, (0, 9), 65, 65)
        mixer.parcel(0, 0, [1])
        mixer.end(0, 1)
        beats(mixer, 5)
        # A voice that is over is there still.
        refuse(self, There, mixer, "add", 0, (1, 1), 0, FULL)

    def test_pace(self):
        for many in range(1, 9):
            for per in range(1, 9):
                Mixer(1).add(0, (many, per), 0, 0)
        mixer = Mixer(1)
        for pace in ((0, 1), (1, 0), (9, 1), (1, 9), (-1, 1), (1, -1), (0, 0), (9, 9), (), (1,), (1, 1, 1),
                     (True, 1), (1, True), (False, 1)):
            refuse(self, BadPace, mixer, "add", 0, pace, 0, 0)

    def test_wait(self):
        for wait in range(0, 65):
            Mixer(1).add(0, (1, 1), wait, 0)
        for wait in (-1, 65, 1000, True, False):
            refuse(self, BadWait, Mixer(1), "add", 0, (1, 1), wait, 0)

    def test_loudness(self):
        for loudness in range(0, 65):
            Mixer(1).add(0, (1, 1), 0, loudness)
        for loudness in (-1, 65, 1000, True, False):
            refuse(self, BadLead, Mixer(1), "add", 0, (1, 1), 0, loudness)

    def test_what_is_handed_in_first_is_refused_first(self):
        mixer = Mixer(1)
        mixer.add(0, (1, 1), 0, 0)
        refuse(self, BadName, mixer, "add", -1, (0, 0), -1, -1)
        refuse(self, There, mixer, "add", 0, (0, 0), -1, -1)
        refuse(self, BadPace, mixer, "add", 1, (0, 0), -1, -1)
        refuse(self, BadWait, mixer, "add", 1, (1, 1), -1, -1)
        refuse(self, BadLead, mixer, "add", 1, (1, 1), 0, -1)


class Begin(unittest.TestCase):
    def test_at_once(self):
        self.assertEqual(beats(mixer_of(1, [3, 4, 5]), 3), whole(3, 4, 5))

    def test_behind_the_wait(self):
        for wait in (1, 2, 63, 64):
            mixer = mixer_of(1, [3, 4, 5], wait=wait)
            self.assertEqual(beats(mixer, wait), whole(*[0] * wait))
            self.assertEqual(mixer.states()[0][1], "hushed")
            self.assertEqual(beats(mixer, 3), whole(3, 4, 5))

    def test_from_the_next_beat_counted(self):
        mixer = Mixer(1)
        beats(mixer, 3)
        mixer.add(0, (1, 1), 2, FULL)
        mixer.parcel(0, 0, [7, 8])
        self.assertEqual(beats(mixer, 4), whole(0, 0, 7, 8))

    def test_parcels_may_come_behind_the_begin(self):
        mixer = Mixer(1)
        mixer.add(0, (1, 1), 1, FULL)
        beats(mixer, 3)
        mixer.parcel(0, 0, [1, 2, 3, 4])
        self.assertEqual(beats(mixer, 2), whole(3, 4))
        self.assertEqual(mixer.missed(), [(0, 1), (0, 2)])


class Loudness(unittest.TestCase):
    def test_it_counts_in_parts_of_64(self):
        for loudness in range(0, 65):
            mixer = mixer_of(1, [48, -48], loudness=loudness)
            part = Fraction(48 * loudness, 64)
            self.assertEqual(mixer.beat(), part.as_integer_ratio())
            self.assertEqual(mixer.beat(), (-part).as_integer_ratio())

    def test_a_fraction_of_both(self):
        mixer = mixer_of(1, [1, 2], pace=(1, 2), loudness=16)
        self.assertEqual(beats(mixer, 3), [(1, 4), (3, 8), (1, 2)])


class BetweenNumbers(unittest.TestCase):
    def test_some_by_hand(self):
        self.assertEqual(beats(mixer_of(1, [3, 4], pace=(1, 2)), 3), [(3, 1), (7, 2), (4, 1)])
        self.assertEqual(beats(mixer_of(1, [0, 1, 5], pace=(2, 3)), 4), [(0, 1), (2, 3), (7, 3), (5, 1)])
        self.assertEqual(beats(mixer_of(1, [1, 3], pace=(1, 2)), 2), whole(1, 2))
        self.assertEqual(beats(mixer_of(1, [5, -5], pace=(1, 4)), 5), [(5, 1), (5, 2), (0, 1), (-5, 2), (-5, 1)])
        self.assertEqual(beats(mixer_of(1, [0, 0, 0, 3, 6], pace=(3, 2)), 2), whole(0, 0))
        self.assertEqual(beats(mixer_of(1, [0, -1], pace=(1, 8)), 9)[1:8],
                         [(-1, 8), (-1, 4), (-3, 8), (-1, 2), (-5, 8), (-3, 4), (-7, 8)])
        self.assertEqual(beats(mixer_of(1, [-999, 999], pace=(1, 7)), 2), [(-999, 1), (-4995, 7)])

    def test_all_paces(self):
        for many in range(1, 9):
            for per in range(1, 9):
                mixer = mixer_of(1, NUMBERS, pace=(many, per))
                for beat in range(150):
                    place = Fraction(beat * many, per)
                    low = place.numerator // place.denominator
                    if low + 2 > len(NUMBERS):
                        break
                    value = NUMBERS[low] + (place - low) * (NUMBERS[low + 1] - NUMBERS[low])
                    self.assertEqual(mixer.beat(), value.as_integer_ratio(), (many, per, beat))
                self.assertEqual(mixer.missed(), [])

    def test_places_are_counted_from_the_begin(self):
        mixer = Mixer(1)
        beats(mixer, 5)
        mixer.add(4, (2, 3), 6, FULL)
        hand_all(mixer, 4, [0, 1, 5])
        self.assertEqual(beats(mixer, 10)[6:], [(0, 1), (2, 3), (7, 3), (5, 1)])


class Wanted(unittest.TestCase):
    def test_at_a_whole_place_only_this_one(self):
        mixer = Mixer(1)
        mixer.add(0, (8, 1), 0, FULL)
        for beat in range(4):
            mixer.parcel(0, 8 * beat, [beat + 1])
        self.assertEqual(beats(mixer, 4), whole(1, 2, 3, 4))
        self.assertEqual(mixer.missed(), [])

    def test_between_two_both(self):
        for lacking in (1, 2):
            mixer = Mixer(1)
            mixer.add(0, (3, 2), 0, FULL)
            for place in {0, 1, 2, 3} - {lacking}:
                mixer.parcel(0, place, [place + 1])
            # Places 0, 3/2 and 3.
            self.assertEqual(beats(mixer, 3), whole(1, 0, 4))
            self.assertEqual(mixer.missed(), [(0, 1)])


if __name__ == "__main__":
    unittest.main()

"""Point 5: lead, hush and wake."""

import unittest
from fractions import Fraction

from mixserver.errors import BadLead, NoVoice
from mixserver.mixer import Mixer
from tests.helpers import FULL, beats, mixer_of, refuse, state, steady, whole


def loudness(mixer, name=0):
    return {row[0]: row[3] for row in mixer.states()}[name]


def levels(mixer, many):
    """Do so many beats, and tell the loudness of voice 0 behind each."""
    rows = []
    for _ in range(many):
        mixer.beat()
        rows.append(loudness(mixer))
    return rows


class Bounds(unittest.TestCase):
    def test_loudness(self):
        for right in (0, 1, 63, 64):
            steady(1).lead(0, right, 1)
        for wrong in (-1, 65, 1000, True, False):
            refuse(self, BadLead, steady(1), "lead", 0, wrong, 1)

    def test_beats(self):
        for right in (1, 2, 63, 64):
            steady(1).lead(0, 1, right)
        for wrong in (-1, 0, 65, 1000, True, False):
            refuse(self, BadLead, steady(1), "lead", 0, 1, wrong)

    def test_no_voice(self):
        refuse(self, NoVoice, steady(1), "lead", 1, 65, 65)
        refuse(self, NoVoice, steady(1), "hush", 1)
        refuse(self, NoVoice, steady(1), "wake", 1)

    def test_a_lead_that_is_refused_does_not_end_another(self):
        mixer = steady(1, loudness=0)
        mixer.lead(0, 64, 4)
        mixer.beat()
        refuse(self, BadLead, mixer, "lead", 0, 0, 65)
        self.assertEqual(levels(mixer, 4), [(1, 2), (3, 4), (1, 1), (1, 1)])


class Lead(unittest.TestCase):
    def test_up(self):
        mixer = steady(1, 8, loudness=0)
        mixer.lead(0, 64, 4)
        self.assertEqual(loudness(mixer), (0, 1))
        # The first step is done ahead of the first part.
        self.assertEqual(beats(mixer, 6), whole(2, 4, 6, 8, 8, 8))

    def test_down(self):
        mixer = steady(1, 8)
        mixer.lead(0, 10, 3)
        self.assertEqual(levels(mixer, 5), [(23, 32), (7, 16), (5, 32), (5, 32), (5, 32)])

    def test_in_one_beat(self):
        mixer = steady(1, 64)
        mixer.lead(0, 3, 1)
        self.assertEqual(beats(mixer, 2), whole(3, 3))

    def test_in_64_beats(self):
        mixer = steady(1, 1)
        mixer.lead(0, 0, 64)
        self.assertEqual(levels(mixer, 65)[:3], [(63, 64), (31, 32), (61, 64)])
        self.assertEqual(mixer.beat(), (0, 1))
        self.assertEqual(loudness(mixer), (0, 1))

    def test_steps_that_are_no_64ths(self):
        mixer = steady(1, 1, loudness=0)
        mixer.lead(0, 64, 63)
        steps = [Fraction(k, 63).as_integer_ratio() for k in range(1, 64)]
        self.assertEqual(levels(mixer, 64), steps + [(1, 1)])

    def test_to_what_it_is(self):
        mixer = steady(1, 1, loudness=7)
        mixer.lead(0, 7, 9)
        self.assertEqual(levels(mixer, 10), [(7, 64)] * 10)

    def test_anew_midway(self):
        mixer = steady(1, 64, loudness=0)
        mixer.lead(0, 64, 4)
        self.assertEqual(beats(mixer, 2), whole(16, 32))
        mixer.lead(0, 0, 3)
        self.assertEqual(levels(mixer, 4), [(1, 3), (1, 6), (0, 1), (0, 1)])

    def test_anew_from_a_level_that_is_no_64th(self):
        mixer = steady(1, 1, loudness=0)
        mixer.lead(0, 64, 3)
        self.assertEqual(levels(mixer, 1), [(1, 3)])
        mixer.lead(0, 32, 5)
        self.assertEqual(levels(mixer, 6), [(11, 30), (2, 5), (13, 30), (7, 15), (1, 2), (1, 2)])

    def test_anew_ahead_of_a_beat(self):
        mixer = steady(1, 64, loudness=0)
        mixer.lead(0, 64, 4)
        mixer.lead(0, 32, 2)
        self.assertEqual(beats(mixer, 4), whole(16, 32, 32, 32))

    def test_the_same_again_midway_is_slower(self):
        mixer = steady(1, 64, loudness=0)
        mixer.lead(0, 64, 2)
        mixer.beat()
        mixer.lead(0, 64, 2)
        self.assertEqual(beats(mixer, 3), whole(48, 64, 64))

    def test_ahead_of_the_begin(self):
        mixer = mixer_of(1, [64] * 9, wait=3, loudness=0)
        mixer.lead(0, 64, 4)
        self.assertEqual(levels(mixer, 2), [(1, 4), (1, 2)])
        self.assertEqual(beats(mixer, 3), whole(0, 64, 64))

    def test_while_it_is_hushed(self):
        mixer = steady(1, 64)
        mixer.hush(0)
        mixer.lead(0, 0, 4)
        self.assertEqual(levels(mixer, 3), [(3, 4), (1, 2), (1, 4)])
        mixer.wake(0)
        self.assertEqual(mixer.beat(), (0, 1))

    def test_while_numbers_lack(self):
        mixer = mixer_of(1, [64], loudness=0)
        mixer.lead(0, 64, 4)
        self.assertEqual(beats(mixer, 3), whole(16, 0, 0))
        mixer.parcel(0, 3, [64])
        self.assertEqual(beats(mixer, 1), whole(64))

    def test_one_voice_only(self):
        mixer = steady(1, 64)
        mixer.add(1, (1, 1), 0, 32)
        mixer.lead(0, 0, 2)
        mixer.beat()
        self.assertEqual((loudness(mixer, 0), loudness(mixer, 1)), ((1, 2), (1, 2)))
        mixer.beat()
        self.assertEqual((loudness(mixer, 0), loudness(mixer, 1)), ((0, 1), (1, 2)))


class HushAndWake(unittest.TestCase):
    def test_a_voice_is_to_be_heard_at_first(self):
        self.assertEqual(beats(steady(1), 1), whole(8))

    def test_hush_ahead_of_the_begin(self):
        mixer = steady(4)
        mixer.hush(0)
        self.assertEqual(beats(mixer, 3), whole(0, 0, 0))
        self.assertEqual(state(mixer), "hushed")
        mixer.wake(0)
        self.assertEqual(beats(mixer, 5), whole(2, 4, 6, 8, 8))

    def test_hush_while_on(self):
        mixer = steady(4)
        beats(mixer, 4)
        mixer.hush(0)
        self.assertEqual(state(mixer), "on")
        self.assertEqual(beats(mixer, 5), whole(6, 4, 2, 0, 0))
        self.assertEqual(state(mixer), "hushed")

    def test_hush_while_rising(self):
        mixer = steady(4)
        beats(mixer, 2)
        mixer.hush(0)
        self.assertEqual(state(mixer), "rising")
        self.assertEqual(beats(mixer, 5), whole(3, 2, 1, 0, 0))

    def test_hush_while_falling(self):
        mixer = mixer_of(4, [8] * 4)
        beats(mixer, 5)
        self.assertEqual(state(mixer), "falling")
        mixer.hush(0)
        self.assertEqual(beats(mixer, 4), whole(4, 2, 0, 0))

    def test_hush_and_wake_between_two_beats(self):
        mixer = steady(4)
        beats(mixer, 2)
        mixer.hush(0)
        mixer.wake(0)
        self.assertEqual(beats(mixer, 3), whole(6, 8, 8))
        mixer.hush(0)
        mixer.wake(0)
        self.assertEqual(beats(mixer, 1), whole(8))

    def test_wake_while_falling(self):
        mixer = steady(4)
        beats(mixer, 4)
        mixer.hush(0)
        mixer.beat()
        mixer.wake(0)
        self.assertEqual(state(mixer), "falling")
        self.assertEqual(beats(mixer, 8), whole(4, 2, 0, 2, 4, 6, 8, 8))

    def test_wake_while_it_is_to_be_heard_changes_nothing(self):
        mixer = steady(4)
        told = []
        for _ in range(5):
            mixer.wake(0)
            told.append(mixer.beat())
        self.assertEqual(told, whole(2, 4, 6, 8, 8))

    def test_twice_is_as_once(self):
        mixer = steady(2)
        mixer.hush(0)
        mixer.hush(0)
        self.assertEqual(beats(mixer, 2), whole(0, 0))
        mixer.wake(0)
        self.assertEqual(beats(mixer, 2), whole(4, 8))
        mixer.hush(0)
        mixer.beat()
        mixer.hush(0)
        self.assertEqual(beats(mixer, 2), whole(0, 0))

    def test_while_numbers_lack(self):
        mixer = Mixer(1)
        mixer.add(0, (1, 1), 0, FULL)
        mixer.hush(0)
        beats(mixer, 2)
        mixer.parcel(0, 0, [5] * 9)
        self.assertEqual(beats(mixer, 1), whole(0))
        mixer.wake(0)
        self.assertEqual(beats(mixer, 1), whole(5))
        self.assertEqual(mixer.missed(), [(0, 0), (0, 1)])

    def test_the_line_goes_on_while_it_is_hushed(self):
        mixer = mixer_of(1, [1, 2, 3, 4, 5])
        mixer.beat()
        mixer.hush(0)
        beats(mixer, 2)
        mixer.wake(0)
        self.assertEqual(beats(mixer, 2), whole(4, 5))

    def test_one_voice_only(self):
        mixer = steady(1, 8)
        mixer.add(1, (1, 1), 0, FULL)
        mixer.parcel(1, 0, [5] * 9)
        mixer.hush(0)
        self.assertEqual(beats(mixer, 1), whole(5))


if __name__ == "__main__":
    unittest.main()

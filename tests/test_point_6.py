"""Point 6: beat, and how a voice rises and falls."""

import unittest
from fractions import Fraction

from mixserver.mixer import Mixer
from tests.helpers import FULL, beats, mixer_of, state, steady, whole


def course(mixer, many):
    """Do so many beats, and tell the state of voice 0 behind each."""
    rows = []
    for _ in range(many):
        mixer.beat()
        rows.append(state(mixer))
    return rows


class Rise(unittest.TestCase):
    def test_a_voice_is_hushed_at_first(self):
        self.assertEqual(state(steady(1)), "hushed")
        self.assertEqual(state(steady(16)), "hushed")

    def test_soft_1(self):
        self.assertEqual(beats(steady(1), 3), whole(8, 8, 8))
        self.assertEqual(course(steady(1), 2), ["on", "on"])

    def test_soft_2(self):
        self.assertEqual(beats(steady(2), 3), whole(4, 8, 8))
        self.assertEqual(course(steady(2), 3), ["rising", "on", "on"])

    def test_soft_16(self):
        self.assertEqual(beats(steady(16, 4), 5), [(1, 4), (1, 2), (3, 4), (1, 1), (5, 4)])
        self.assertEqual(course(steady(16), 17), ["rising"] * 15 + ["on"] * 2)

    def test_each_part_is_of_the_whole_of_its_own_beat(self):
        mixer = mixer_of(4, [4, 8, -12, 16, 20])
        self.assertEqual(beats(mixer, 5), whole(1, 4, -9, 16, 20))

    def test_it_rises_by_the_loudness_that_is_led(self):
        mixer = mixer_of(2, [64] * 9, loudness=0)
        mixer.lead(0, 64, 4)
        self.assertEqual(beats(mixer, 5), whole(8, 32, 48, 64, 64))

    def test_a_whole_of_nothing_rises_too(self):
        mixer = mixer_of(3, [0, 0, 0, 9])
        self.assertEqual(course(mixer, 3), ["rising", "rising", "on"])
        self.assertEqual(beats(mixer, 1), whole(9))

    def test_broken_off_by_a_number_that_lacks(self):
        mixer = mixer_of(4, [8, 8, 8])
        self.assertEqual(beats(mixer, 3), whole(2, 4, 6))
        self.assertEqual(beats(mixer, 6), [(9, 2), (3, 1), (3, 2), (0, 1), (0, 1), (0, 1)])

    def test_broken_off_in_its_first_beat(self):
        mixer = mixer_of(4, [16])
        self.assertEqual(beats(mixer, 6), whole(4, 3, 2, 1, 0, 0))

    def test_states_of_a_rise_that_is_broken_off(self):
        mixer = mixer_of(4, [8, 8])
        self.assertEqual(course(mixer, 7), ["rising"] * 2 + ["falling"] * 3 + ["hushed"] * 2)


class Fall(unittest.TestCase):
    def test_soft_1(self):
        mixer = mixer_of(1, [8, 8])
        self.assertEqual(beats(mixer, 2), whole(8, 8))
        self.assertEqual(course(mixer, 2), ["hushed", "hushed"])
        mixer = mixer_of(1, [8, 8])
        self.assertEqual(beats(mixer, 4), whole(8, 8, 0, 0))

    def test_soft_2(self):
        mixer = mixer_of(2, [8, 8])
        self.assertEqual(beats(mixer, 5), whole(4, 8, 4, 0, 0))
        self.assertEqual(course(mixer_of(2, [8, 8]), 5), ["rising", "on", "falling", "hushed", "hushed"])

    def test_soft_16(self):
        mixer = mixer_of(16, [32] * 16)
        self.assertEqual(beats(mixer, 16), whole(*range(2, 34, 2)))
        self.assertEqual(beats(mixer, 17), whole(*range(30, -2, -2), 0))
        self.assertEqual(course(mixer_of(16, [32] * 16), 33)[15:], ["on"] + ["falling"] * 15 + ["hushed"] * 2)

    def test_from_the_part_it_gave_last(self):
        mixer = mixer_of(3, [0, 0, 9, -30])
        self.assertEqual(beats(mixer, 8), whole(0, 0, 9, -30, -20, -10, 0, 0))

    def test_it_goes_on_to_its_end_when_the_numbers_are_there_again(self):
        mixer = mixer_of(4, [8] * 4)
        beats(mixer, 5)
        mixer.parcel(0, 4, [100] * 20)
        # The numbers and the loudness of these beats count for nothing.
        mixer.lead(0, 0, 2)
        self.assertEqual(beats(mixer, 3), whole(4, 2, 0))
        mixer.lead(0, 64, 1)
        self.assertEqual(beats(mixer, 5), whole(25, 50, 75, 100, 100))

    def test_it_rises_at_once_behind_its_end(self):
        mixer = mixer_of(2, [8] * 2)
        beats(mixer, 3)
        mixer.parcel(0, 2, [8] * 9)
        self.assertEqual(course(mixer, 3), ["hushed", "rising", "on"])

    def test_soft_1_rises_in_the_beat_behind(self):
        mixer = mixer_of(1, [8, 8])
        mixer.parcel(0, 3, [7, 6])
        self.assertEqual(beats(mixer, 5), whole(8, 8, 0, 7, 6))
        self.assertEqual(mixer.missed(), [(0, 2)])

    def test_one_number_that_lacks(self):
        mixer = mixer_of(2, [8] * 4)
        mixer.parcel(0, 5, [8] * 9)
        self.assertEqual(beats(mixer, 9), whole(4, 8, 8, 8, 4, 0, 4, 8, 8))

    def test_it_falls_again_out_of_a_second_rise(self):
        mixer = mixer_of(2, [8] * 3)
        mixer.parcel(0, 5, [20])
        self.assertEqual(beats(mixer, 8), whole(4, 8, 8, 4, 0, 10, 5, 0))


class InTime(unittest.TestCase):
    def test_a_number_that_comes_just_in_time(self):
        mixer = Mixer(4)
        mixer.add(0, (1, 1), 0, FULL)
        told = []
        for place in range(6):
            mixer.parcel(0, place, [8])
            told.append(mixer.beat())
        self.assertEqual(told, whole(2, 4, 6, 8, 8, 8))
        self.assertEqual(mixer.missed(), [])

    def test_between_two_numbers_the_second_is_wanted_in_time(self):
        mixer = Mixer(1)
        mixer.add(0, (1, 2), 0, FULL)
        mixer.parcel(0, 0, [4])
        self.assertEqual(beats(mixer, 2), whole(4, 0))
        mixer.parcel(0, 1, [8])
        self.assertEqual(beats(mixer, 1), whole(8))
        self.assertEqual(mixer.missed(), [(0, 1)])

    def test_two_numbers_that_lack_side_by_side(self):
        mixer = mixer_of(2, [8] * 4)
        mixer.parcel(0, 6, [8] * 9)
        self.assertEqual(beats(mixer, 9), whole(4, 8, 8, 8, 4, 0, 4, 8, 8))
        self.assertEqual(mixer.missed(), [(0, 4), (0, 5)])


class Sum(unittest.TestCase):
    def test_nobody(self):
        self.assertEqual(beats(Mixer(3), 3), whole(0, 0, 0))

    def test_of_different_bottoms(self):
        mixer = mixer_of(1, [0, 1], pace=(1, 2))
        mixer.add(1, (1, 3), 0, FULL)
        mixer.parcel(1, 0, [0, 1])
        mixer.add(5, (1, 7), 0, 32)
        mixer.parcel(5, 0, [0, -1])
        told = [Fraction(beat, 2) + Fraction(beat, 3) - Fraction(beat, 14) for beat in range(3)]
        self.assertEqual(beats(mixer, 3), [part.as_integer_ratio() for part in told])

    def test_of_voices_in_each_state(self):
        mixer = steady(4, 8)
        beats(mixer, 4)
        mixer.add(1, (1, 1), 0, FULL)
        mixer.parcel(1, 0, [100] * 9)
        mixer.add(2, (1, 1), 9, FULL)
        mixer.hush(0)
        self.assertEqual(beats(mixer, 5), whole(31, 54, 77, 100, 100))

    def test_six_voices_at_their_most(self):
        mixer = Mixer(1)
        for name in range(6):
            mixer.add(name, (1, 1), 0, FULL)
            mixer.parcel(name, 0, [999, -999])
        self.assertEqual(beats(mixer, 3), whole(5994, -5994, 0))


if __name__ == "__main__":
    unittest.main()

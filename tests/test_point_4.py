"""Point 4: parcels, and the end of a voice."""

import unittest

from mixserver.errors import BadEnd, BadParcel, NoVoice
from mixserver.mixer import Mixer
from tests.helpers import FULL, beats, mixer_of, refuse, state, whole


def empty(soft=1, pace=(1, 1)):
    mixer = Mixer(soft)
    mixer.add(0, pace, 0, FULL)
    return mixer


class ParcelBounds(unittest.TestCase):
    def test_no_voice(self):
        refuse(self, NoVoice, empty(), "parcel", 1, 0, [1])
        refuse(self, NoVoice, empty(), "parcel", 1, -1, [1000])

    def test_length(self):
        empty().parcel(0, 0, [5])
        empty().parcel(0, 0, [5] * 32)
        refuse(self, BadParcel, empty(), "parcel", 0, 0, [])
        refuse(self, BadParcel, empty(), "parcel", 0, 0, [5] * 33)

    def test_numbers(self):
        mixer = empty()
        mixer.parcel(0, 0, [-999, 999, 0])
        self.assertEqual(beats(mixer, 3), whole(-999, 999, 0))
        for wrong in (-1000, 1000, True, False):
            refuse(self, BadParcel, empty(), "parcel", 0, 0, [wrong])
            refuse(self, BadParcel, empty(), "parcel", 0, 0, [1, wrong, 2])
            refuse(self, BadParcel, empty(), "parcel", 0, 0, [1] * 31 + [wrong])

    def test_place(self):
        empty().parcel(0, 0, [1])
        empty().parcel(0, 999, [1])
        for wrong in (-1, 1000, True, False):
            refuse(self, BadParcel, empty(), "parcel", 0, wrong, [1])

    def test_none_beyond_the_last_place(self):
        empty().parcel(0, 968, [1] * 32)
        refuse(self, BadParcel, empty(), "parcel", 0, 969, [1] * 32)
        empty().parcel(0, 998, [1, 2])
        refuse(self, BadParcel, empty(), "parcel", 0, 999, [1, 2])

    def test_the_last_place_sounds(self):
        mixer = empty(pace=(8, 1))
        mixer.parcel(0, 992, [1])
        mixer.parcel(0, 999, [2])
        self.assertEqual(beats(mixer, 125)[123:], whole(0, 1))
        mixer = empty(pace=(3, 1))
        mixer.parcel(0, 999, [2])
        self.assertEqual(beats(mixer, 335)[332:], whole(0, 2, 0))
        self.assertEqual(mixer.missed()[-1], (0, 334))

    def test_none_behind_the_end(self):
        mixer = empty()
        mixer.end(0, 10)
        refuse(self, BadParcel, mixer, "parcel", 0, 10, [1])
        refuse(self, BadParcel, mixer, "parcel", 0, 9, [1, 2])
        refuse(self, BadParcel, mixer, "parcel", 0, 500, [1])
        mixer.parcel(0, 9, [1])
        mixer.parcel(0, 8, [1, 2])

    def test_the_whole_range_with_the_end_at_its_bound(self):
        mixer = empty()
        mixer.end(0, 1000)
        mixer.parcel(0, 999, [1])
        refuse(self, BadParcel, mixer, "parcel", 0, 999, [1, 1])


class ParcelsOutOfTurn(unittest.TestCase):
    def test_in_another_order(self):
        mixer = empty()
        mixer.parcel(0, 4, [5, 6])
        mixer.parcel(0, 0, [1, 2])
        mixer.parcel(0, 2, [3, 4])
        self.assertEqual(beats(mixer, 6), whole(1, 2, 3, 4, 5, 6))

    def test_twice(self):
        mixer = empty()
        for _ in range(2):
            mixer.parcel(0, 0, [1, 2, 3])
        self.assertEqual(mixer.beat(), (1, 1))
        mixer.parcel(0, 0, [1, 2, 3])
        self.assertEqual(beats(mixer, 2), whole(2, 3))

    def test_what_came_first_stays(self):
        mixer = empty()
        mixer.parcel(0, 1, [20, 30])
        mixer.parcel(0, 0, [1, 2, 3, 4])
        mixer.parcel(0, 3, [40, 50])
        self.assertEqual(beats(mixer, 5), whole(1, 20, 30, 4, 50))

    def test_a_nothing_that_came_first_stays_too(self):
        mixer = empty()
        mixer.parcel(0, 0, [0, 0])
        mixer.parcel(0, 0, [7, 8])
        self.assertEqual(beats(mixer, 2), whole(0, 0))

    def test_late(self):
        mixer = empty()
        mixer.parcel(0, 0, [1, 2])
        self.assertEqual(beats(mixer, 4), whole(1, 2, 0, 0))
        mixer.parcel(0, 2, [3, 4, 5])
        self.assertEqual(beats(mixer, 1), whole(5))
        self.assertEqual(mixer.missed(), [(0, 2), (0, 3)])

    def test_for_one_voice_only(self):
        mixer = empty()
        mixer.add(1, (1, 1), 0, FULL)
        mixer.parcel(1, 0, [9])
        self.assertEqual(mixer.beat(), (9, 1))
        self.assertEqual(mixer.missed(), [(0, 0)])


class EndBounds(unittest.TestCase):
    def test_no_voice(self):
        refuse(self, NoVoice, empty(), "end", 3, 0)

    def test_bounds(self):
        empty().end(0, 1)
        empty().end(0, 1000)
        for wrong in (-1, 0, 1001, True, False):
            refuse(self, BadEnd, empty(), "end", 0, wrong)

    def test_once(self):
        mixer = empty()
        mixer.end(0, 5)
        for again in (4, 5, 6):
            refuse(self, BadEnd, mixer, "end", 0, again)

    def test_no_fewer_than_came(self):
        mixer = mixer_of(1, [1, 2, 3])
        refuse(self, BadEnd, mixer, "end", 0, 2)
        refuse(self, BadEnd, mixer, "end", 0, 1)
        mixer.end(0, 3)

    def test_parcels_that_came_twice_count_once(self):
        mixer = mixer_of(1, [1, 2, 3])
        mixer.parcel(0, 0, [1, 2, 3])
        mixer.parcel(0, 1, [2, 3])
        mixer.end(0, 3)

    def test_no_number_that_came_is_behind_the_end(self):
        mixer = empty()
        mixer.parcel(0, 5, [1])
        mixer.parcel(0, 0, [1])
        refuse(self, BadEnd, mixer, "end", 0, 5)
        mixer.end(0, 6)
        mixer = empty()
        mixer.parcel(0, 999, [1])
        refuse(self, BadEnd, mixer, "end", 0, 999)
        mixer.end(0, 1000)

    def test_each_voice_has_its_own(self):
        mixer = empty()
        mixer.add(1, (1, 1), 0, FULL)
        mixer.end(0, 1)
        mixer.end(1, 2)
        mixer.parcel(1, 0, [1, 2])
        refuse(self, BadParcel, mixer, "parcel", 0, 0, [1, 2])


class Over(unittest.TestCase):
    def test_an_end_that_is_told_early(self):
        mixer = empty()
        mixer.end(0, 3)
        mixer.parcel(0, 0, [1, 2, 3])
        self.assertEqual(beats(mixer, 6), whole(1, 2, 3, 0, 0, 0))
        self.assertEqual(mixer.missed(), [])
        self.assertEqual(state(mixer), "hushed")

    def test_an_end_that_is_told_just_in_time(self):
        mixer = mixer_of(1, [1, 2, 3])
        beats(mixer, 3)
        mixer.end(0, 3)
        self.assertEqual(beats(mixer, 2), whole(0, 0))
        self.assertEqual(mixer.missed(), [])

    def test_an_end_that_is_told_late(self):
        mixer = mixer_of(1, [1, 2, 3])
        self.assertEqual(beats(mixer, 5), whole(1, 2, 3, 0, 0))
        mixer.end(0, 3)
        self.assertEqual(beats(mixer, 3), whole(0, 0, 0))
        # At beats 3 and 4 it wasn't known to be over: these were missed.
        self.assertEqual(mixer.missed(), [(0, 3), (0, 4)])

    def test_the_end_falls_between_beats(self):
        # Three numbers; beat 5 is at place 5/2 and wants place 3.
        mixer = mixer_of(2, [8, 8, 8], pace=(1, 2))
        mixer.end(0, 3)
        self.assertEqual(beats(mixer, 8), whole(4, 8, 8, 8, 8, 4, 0, 0))
        self.assertEqual(mixer.missed(), [])

    def test_the_last_number_is_skipped_by_a_quick_pace(self):
        # Places 0, 3 and 6; of six numbers the last has place 5.
        mixer = mixer_of(1, [1, 2, 3, 4, 5, 6], pace=(3, 1))
        mixer.end(0, 6)
        self.assertEqual(beats(mixer, 4), whole(1, 4, 0, 0))
        self.assertEqual(mixer.missed(), [])

    def test_what_lacks_ahead_of_the_end_is_missed(self):
        mixer = empty()
        mixer.end(0, 3)
        mixer.parcel(0, 0, [1])
        beats(mixer, 6)
        self.assertEqual(mixer.missed(), [(0, 1), (0, 2)])

    def test_it_falls_in_soft_beats_and_does_not_rise_again(self):
        mixer = mixer_of(4, [8] * 6)
        mixer.end(0, 6)
        self.assertEqual(beats(mixer, 12), whole(2, 4, 6, 8, 8, 8, 6, 4, 2, 0, 0, 0))
        mixer.wake(0)
        self.assertEqual(beats(mixer, 3), whole(0, 0, 0))
        self.assertEqual(state(mixer), "hushed")

    def test_an_end_behind_numbers_that_never_came(self):
        mixer = empty()
        mixer.end(0, 1)
        self.assertEqual(beats(mixer, 3), whole(0, 0, 0))
        self.assertEqual(mixer.missed(), [(0, 0)])


if __name__ == "__main__":
    unittest.main()

"""Point 7: missed and states."""

import unittest

from mixserver.mixer import Mixer
from tests.helpers import FULL, beats, mixer_of, steady


class Missed(unittest.TestCase):
    def test_nothing_at_first(self):
        self.assertEqual(Mixer(1).missed(), [])
        mixer = steady(1)
        beats(mixer, 9)
        self.assertEqual(mixer.missed(), [])

    def test_a_list_of_tuples(self):
        mixer = mixer_of(1, [1])
        beats(mixer, 2)
        self.assertEqual(mixer.missed(), [(0, 1)])
        self.assertIs(type(mixer.missed()), list)
        self.assertIs(type(mixer.missed()[0]), tuple)

    def test_from_the_begin_on(self):
        mixer = Mixer(1)
        beats(mixer, 2)
        mixer.add(3, (1, 1), 2, FULL)
        self.assertEqual(mixer.missed(), [])
        beats(mixer, 2)
        self.assertEqual(mixer.missed(), [])
        beats(mixer, 2)
        self.assertEqual(mixer.missed(), [(3, 4), (3, 5)])

    def test_by_beats_then_names(self):
        mixer = Mixer(1)
        for name in (4, 0, 2):
            mixer.add(name, (1, 1), 0, FULL)
        mixer.parcel(0, 1, [5])
        beats(mixer, 2)
        mixer.parcel(4, 2, [5])
        beats(mixer, 1)
        self.assertEqual(mixer.missed(), [(0, 0), (2, 0), (4, 0), (2, 1), (4, 1), (0, 2), (2, 2)])

    def test_a_voice_that_is_added_later_stands_in_its_beats(self):
        mixer = Mixer(1)
        mixer.add(5, (1, 1), 0, FULL)
        beats(mixer, 2)
        mixer.add(1, (1, 1), 0, FULL)
        beats(mixer, 2)
        self.assertEqual(mixer.missed(), [(5, 0), (5, 1), (1, 2), (5, 2), (1, 3), (5, 3)])

    def test_heard_or_not(self):
        mixer = mixer_of(4, [8] * 3)
        mixer.hush(0)
        beats(mixer, 5)
        self.assertEqual(mixer.missed(), [(0, 3), (0, 4)])

    def test_in_each_state(self):
        mixer = mixer_of(2, [8] * 2)
        # On, falling, hushed, hushed.
        beats(mixer, 5)
        mixer.parcel(0, 5, [8])
        # Rising, and broken off at place 6.
        beats(mixer, 2)
        self.assertEqual(mixer.missed(), [(0, 2), (0, 3), (0, 4), (0, 6)])

    def test_at_a_loudness_of_nothing(self):
        mixer = mixer_of(1, [8], loudness=0)
        beats(mixer, 2)
        self.assertEqual(mixer.missed(), [(0, 1)])

    def test_one_beat_that_wants_two_that_lack(self):
        mixer = mixer_of(1, [8, 8], pace=(3, 2))
        beats(mixer, 3)
        self.assertEqual(mixer.missed(), [(0, 1), (0, 2)])
        mixer = mixer_of(1, [8], pace=(3, 2))
        beats(mixer, 2)
        self.assertEqual(mixer.missed(), [(0, 1)])

    def test_what_comes_later_takes_nothing_back(self):
        mixer = mixer_of(1, [8])
        beats(mixer, 3)
        mixer.parcel(0, 1, [8, 8])
        self.assertEqual(mixer.missed(), [(0, 1), (0, 2)])
        mixer.end(0, 3)
        self.assertEqual(mixer.missed(), [(0, 1), (0, 2)])

    def test_not_once_it_is_over(self):
        mixer = mixer_of(1, [8, 8])
        mixer.end(0, 2)
        beats(mixer, 9)
        self.assertEqual(mixer.missed(), [])

    def test_changed_by_the_caller(self):
        mixer = mixer_of(1, [8])
        beats(mixer, 3)
        mixer.missed().append((0, 99))
        mixer.missed().pop(0)
        self.assertEqual(mixer.missed(), [(0, 1), (0, 2)])
        beats(mixer, 1)
        self.assertEqual(mixer.missed(), [(0, 1), (0, 2), (0, 3)])


class States(unittest.TestCase):
    def test_nobody(self):
        self.assertEqual(Mixer(1).states(), [])

    def test_ahead_of_the_first_beat(self):
        mixer = Mixer(1)
        mixer.add(0, (1, 1), 0, 48)
        mixer.parcel(0, 0, [5])
        self.assertEqual(mixer.states(), [(0, "hushed", (0, 1), (3, 4))])

    def test_by_names(self):
        mixer = Mixer(1)
        for name in (5, 0, 3, 1):
            mixer.add(name, (1, 1), 0, 10 * name)
        self.assertEqual(mixer.states(), [(0, "hushed", (0, 1), (0, 1)), (1, "hushed", (0, 1), (5, 32)),
                                          (3, "hushed", (0, 1), (15, 32)), (5, "hushed", (0, 1), (25, 32))])

    def test_kinds(self):
        mixer = steady(2)
        mixer.beat()
        self.assertIs(type(mixer.states()), list)
        row = mixer.states()[0]
        self.assertEqual([type(word) for word in row], [int, str, tuple, tuple])

    def test_all_along(self):
        mixer = mixer_of(2, [6] * 3, loudness=32)
        self.assertEqual(mixer.states(), [(0, "hushed", (0, 1), (1, 2))])
        for name, part in (("rising", (3, 2)), ("on", (3, 1)), ("on", (3, 1)), ("falling", (3, 2)),
                           ("hushed", (0, 1)), ("hushed", (0, 1))):
            self.assertEqual(mixer.beat(), part)
            self.assertEqual(mixer.states(), [(0, name, part, (1, 2))])

    def test_a_deed_alone_changes_neither_state_nor_part(self):
        mixer = steady(2)
        beats(mixer, 2)
        before = [(0, "on", (8, 1), (1, 1))]
        mixer.hush(0)
        mixer.lead(0, 0, 1)
        mixer.parcel(0, 0, [9])
        self.assertEqual(mixer.states(), before)
        mixer.beat()
        self.assertEqual(mixer.states(), [(0, "falling", (4, 1), (0, 1))])

    def test_ahead_of_the_begin_the_loudness_is_led(self):
        mixer = mixer_of(1, [5], wait=9, loudness=0)
        mixer.lead(0, 64, 2)
        mixer.beat()
        self.assertEqual(mixer.states(), [(0, "hushed", (0, 1), (1, 2))])

    def test_voices_that_are_over_are_told(self):
        mixer = mixer_of(1, [5])
        mixer.end(0, 1)
        beats(mixer, 9)
        self.assertEqual(mixer.states(), [(0, "hushed", (0, 1), (1, 1))])

    def test_changed_by_the_caller(self):
        mixer = steady(1)
        mixer.beat()
        mixer.states().clear()
        mixer.states()[0] = (0, "gone", (7, 1), (7, 1))
        self.assertEqual(mixer.states(), [(0, "on", (8, 1), (1, 1))])


if __name__ == "__main__":
    unittest.main()
